/-
  Of layer 12: what the proof leans on.
-/
import Derived.Test.YtaoiejgjdmakjaaDoorDoesK12
namespace Go.Proofs.YtaoiejgjdmakjaaDoor
open Go.RowKit
set_option maxRecDepth 100000
set_option linter.unusedSimpArgs false
set_option linter.unusedVariables false
theorem exec_iop {a : Act} {o : Oper} (w : World) (x y : Operand) (ho : o.op = .indexAddr 22 x y) (g q len cap i : Nat) (hx : a.eval x = .slice (some ⟨g, q, none⟩) len cap) (hy : a.eval y = .int .i64 i) (hi : i < len) :
    (execOp a.eval o).run Tryd.prog w = .ok (.value (.pointer (some ⟨g, q + 2 * i, none⟩))) w := by
  have h1 : (i : Int) < (len : Int) := by omega
  unfold execOp
  simp only [ho, hx, hy]
  go_simp
theorem range_two {w : World} {p o : Nat} {x y : Value} (h1 : w.cell? ⟨p, o, none⟩ = some x) (h2 : w.cell? ⟨p, o + 1, none⟩ = some y) : w.rangeAt p o [x, y] := by
  intro q v hq
  match q, hq with
  | 0, hq => simp at hq; subst hq; exact h1
  | 1, hq => simp at hq; subst hq; exact h2
theorem Tryd.infoOp12 : (Tryd.prog.info? 36).map (·.size) = some 2 := by kernel_rfl
def Dl (v0 : World) (G : List Nat) (gs gd zz j : Nat) (lv sv tv : Value) (w : World) : Prop := ∃ l sa sn sc L X, lv = P0 l ∧ sv = .slice sa sn sc ∧ Lb v0 sa sn sc L ∧ Dt v0 G gs gd zz j l [] L X tv X w
theorem lt_of_owc {go : Nat} {x : List Int} {i : Nat} {w : World} (h : Owc go x i w) : go < w.heap.size := by
  obtain ⟨cur, h1, _⟩ := h
  exact lt_of_block h1
theorem ob_other {b : Nat} {w u : World} {v : Value} {L : List Int} (h : Ob b w v L) (g : w.grownBy u v.ownBlock) {i : Nat} {o : Obj} (hi : w.heap[i]? = some o) (hn : ∀ c, o ≠ .cells c 5 (0, 0)) : u.heap[i]? = some o := by
  rw [g.block i (lt_of_block hi) ?_]
  · exact hi
  · intro e2
    rcases h.2 with ⟨rfl, _⟩ | ⟨q, cap2, cur2, rfl, _, h6, _⟩
    · simp [Value.ownBlock] at e2
    · have e3 : i = q := by simpa [Value.ownBlock] using e2
      rw [e3, h6] at hi
      exact hn _ (Option.some.inj hi).symm
theorem bl_one {w u : World} {g : Nat} {c : Array Value} {t : TypeId} (h : Gr w u) (hb : u.heap[g]? = some (.cells c t (0, 0))) (hg : w.heap.size ≤ g) : Bl w [⟨g, c, t⟩] u := ⟨h, (by intro x hx; rw [List.mem_singleton] at hx; subst hx; exact ⟨hb, hg⟩), List.pairwise_singleton _ _⟩
theorem nedI_nat9 (n : Nat) : nedI (n : Int) = ((ned n : Nat) : Int) := by unfold nedI ned; split <;> omega
section
variable {v0 w u : World} {G : List Nat} {gs gd zz j l : Nat} {xs : List Nat} {L : List Int} {X Y : List (List Int)} {tx : Value}
theorem Dt.tv (h : Dt v0 G gs gd zz j l xs L X tx Y w) : ∃ vs, Tv v0 tx Y w vs := by
  obtain ⟨F, H, D, m, s, vs, h1, h2, h3, h4, h5, h6, h7⟩ := h
  exact ⟨vs, h7⟩
theorem Dt.nil (h : Dt v0 G gs gd zz j l xs L X tx Y w) : Dt v0 G gs gd zz j l xs L X (.slice none 0 0) [] w := by
  obtain ⟨F, H, D, m, s, vs, h1, h2, h3, h4, h5, h6, h7⟩ := h
  exact ⟨F, H, D, m, s, [], h1, h2, h3, h4, h5, (fun p e => by cases e), ⟨⟨(fun r hr => by cases hr), rfl, .inl ⟨rfl, rfl⟩⟩, rfl, fun i hi => absurd hi (Nat.not_lt_zero i)⟩⟩
theorem Dt.app2 (h : Dt v0 G gs gd zz j l xs L X tx Y w) {vs9 : List Value} (h79 : Tv v0 tx Y w vs9) {tx' : Value} {ai : Option Addr} {ni ci : Nat} {x : List Int} (hx : Lb v0 ai ni ci x) (hni : ni ≤ 140737488351232) (k : w.grownBy u tx.ownBlock) (ho : Or_ 1 32 0 u tx' (vs9.map (fun s => [s]) ++ [[.slice ai ni ci]])) (hn : tx'.ownBlock = tx.ownBlock ∨ tx'.ownBlock = some w.heap.size) : Dt v0 G gs gd zz j l xs L X tx' (Y ++ [x]) u := by
  obtain ⟨F, H, D, m, s, vs0, h1, h2, h3, h4, h5, h6, -⟩ := h
  have h7 := h79
  have hgu : Gr v0 u := grown_owned (own_up9 h7.row.2 (fun p e => (h6 p e).2.2.2)) (Nat.le_refl _) h1.xs.gr k
  refine ⟨F, H, D, m, s, vs9 ++ [.slice ai ni ci], h1.keep9 hgu k.size ?_, h2, h3, h4, (fun g hg => ⟨(h5 g hg).1, Nat.lt_of_lt_of_le (h5 g hg).2 k.size⟩), fun p e => ?_, ⟨?_, ?_, ?_⟩⟩
  · rintro i (hi | hi | hi)
    · exact k.block i (h1.xs.ls.lt i hi) (fun e => (h6 i e.symm).1 hi)
    · exact k.block i (h1.xs.st.lt i hi) (fun e => (h6 i e.symm).2.1 hi)
    · exact k.block i (h1.lg.lt i hi) (fun e => (h6 i e.symm).2.2.1 hi)
  · rcases hn with h | h
    · rw [h] at e
      exact h6 p e
    · rw [h] at e
      have e2 : w.heap.size = p := Option.some.inj e
      subst e2
      exact ⟨fun e => by have := h1.xs.ls.lt _ e; omega, fun e => by have := h1.xs.st.lt _ e; omega, fun e => by have := h1.lg.lt _ e; omega, h1.xs.gr.size⟩
  · rw [List.map_append]
    exact ho
  · rw [List.length_append, List.length_append, h7.len]; rfl
  · intro i hi
    rw [List.length_append, List.length_singleton] at hi
    rcases Nat.lt_or_ge i Y.length with hlt | hge
    · obtain ⟨a9, n9, c9, q1, q2, q3⟩ := h7.at_ i hlt
      refine ⟨a9, n9, c9, ?_, ?_, q3⟩
      · rw [List.getD_eq_getElem?_getD, List.getElem?_append_left (by rw [h7.len]; exact hlt), ← List.getD_eq_getElem?_getD]
        exact q1
      · rw [List.getD_eq_getElem?_getD, List.getElem?_append_left hlt, ← List.getD_eq_getElem?_getD]
        exact q2
    · obtain rfl : i = Y.length := by omega
      refine ⟨ai, ni, ci, ?_, ?_, hni⟩
      · rw [← h7.len]
        simp [List.getD_eq_getElem?_getD]
      · simp only [List.getD_eq_getElem?_getD, List.getElem?_concat_length, Option.getD_some]
        exact hx
end
theorem owc_ne {v0 : World} {go : Nat} {x : List Int} {i : Nat} {w : World} {tx : Value} {Y : List (List Int)} {vs : List Value} (h : Owc go x i w) (k : Tv v0 tx Y w vs) : some go ≠ tx.ownBlock := by
  intro e
  obtain ⟨cur, h1, _⟩ := h
  rcases k.row.2.2 with ⟨rfl, _⟩ | ⟨q, cap2, cur2, rfl, _, h6, _⟩
  · cases e
  · have e3 : go = q := by simpa [Value.ownBlock] using e
    subst e3
    rw [h1] at h6
    injection h6 with h6
    injection h6 with _ h9
    exact absurd h9 (by decide)
theorem own_at {b : Nat} {w : World} {v : Value} {x : List Int} (h : Ob b w v (x ++ [7])) : ∃ go c, v = .slice (some ⟨go, 0, none⟩) (x.length + 1) c ∧ b ≤ go ∧ go < w.heap.size ∧ x.length + 1 ≤ c ∧ c < 9223372036854775808 ∧ Owc go x 0 w := by
  rcases h.2 with ⟨_, e⟩ | ⟨g, cap, cur, h1, h2, h3, h4, h5, h6, h7⟩
  · simp at e
  · rw [Nat.mul_one] at h7
    have hl : (x ++ [7]).length = x.length + 1 := by simp
    rw [hl] at h1 h4 h7
    refine ⟨g, cap, h1, h2, lt_of_block h3, h4, by unfold maxLen at h5; omega, cur, h3, fun q _ hq => ?_, ?_⟩
    · rw [← Array.getElem?_toList, ← List.getElem?_take_of_lt (show q < x.length + 1 by omega), h7, List.getElem?_map, List.getElem?_append_left hq, List.getElem?_eq_getElem hq, List.getD_eq_getElem?_getD, List.getElem?_eq_getElem hq]
      rfl
    · rw [← Array.getElem?_toList, ← List.getElem?_take_of_lt (show x.length < x.length + 1 by omega), h7, List.getElem?_map, List.getElem?_append_right (Nat.le_refl _), Nat.sub_self]
      rfl
theorem Owc.lb {go : Nat} {x : List Int} {w : World} {n c : Nat} (h : Owc go x 0 w) (hx : IsB x) (hn : x.length = n) (hc : n ≤ c) (hm : c < 9223372036854775808) : Lb w (some ⟨go, 0, none⟩) n c x := by
  obtain ⟨cur, h1, h2, h3⟩ := h
  exact ⟨hn, hx, .inr ⟨go, 0, rfl, fun j hj => by rw [Nat.zero_add]; exact cell_of h1 (h2 j (Nat.zero_le _) hj)⟩, hc, hm⟩
set_option maxHeartbeats 4000000 in
theorem does_law (n0 : Int) (b0 : -9223372036854775808 ≤ n0 ∧ n0 < 9223372036854775808) (os : List (Int × List Int)) (a : Option Addr) (n c : Nat) (w : World) (hf0 : Fst w) (hOs : Lo w a n c os) : Calls Tryd.prog 3 #[.int .i64 n0, .slice a n c] w (Vl (.bool true) w) := by
  obtain ⟨T, hT⟩ : ∃ T, T = Vl (.bool true) w := ⟨_, rfl⟩
  rw [← hT]
  replace hT := hide hT
  have hcn := hOs.cap
  have hcm := hOs.max
  obtain ⟨n3, hn3⟩ : ∃ k, k = min n 30 := ⟨_, rfl⟩
  have hn3n : n3 ≤ n ∧ n3 ≤ 30 := by omega
  replace hf0 := hide hf0; replace hOs := hide hOs; replace hn3 := hide hn3
  go_enter Tryd.func3, Tryd.ntmps3
  go_upto_region 1 with fail
  refine wp_region_lit ?_
  refine list_call 7 #[] (by kernel_rfl) (by kernel_rfl) ((wakes12_ok w (unhide hf0)).mono ?_)
  rintro r v0 ⟨rfl, hg⟩
  refine ⟨_, rfl, ?_⟩
  have hf := hide ((unhide hf0).gr hg)
  replace hOs := hide ((unhide hOs).gr hg)
  have hgw := hide hg
  clear hg
  simp only [nrm]
  refine list_val (.bool false) (by kernel_rfl) (by kernel_rfl) ?_
  simp only [nrm]
  refine wpList_nil ?_
  go_upto_region 3 with fail
  refine wp_region_lit ?_
  refine list_val (.int .i64 n0) (by kernel_rfl) (by kernel_rfl) ?_
  simp only [nrm]
  refine list_call 8 #[.int .i64 n0] (by kernel_rfl) (by kernel_rfl) ((store_ok n0 v0 (unhide hf)).mono ?_)
  rintro r u1 ⟨F, G, gs, gd, D, rfl, hXs, hwd, hDz⟩
  obtain ⟨s1, s2, s3, s4⟩ := sup0_is
  have hz := stz_bd n0
  generalize stz n0 = zz at *
  generalize sup0 = S0 at *
  have hs0 : S0.turn = 0 := by omega
  clear s1 s2 s3 s4
  refine ⟨_, rfl, ?_⟩
  replace hXs := hide hXs; replace hwd := hide hwd; replace hDz := hide hDz
  simp only [nrm]
  refine list_val (.tuple #[.pointer (some ⟨gd, 0, none⟩), .pointer (some ⟨gs, 0, none⟩)]) (by kernel_rfl) (by kernel_rfl) ?_
  simp only [nrm]
  refine list_val (.pointer (some ⟨gd, 0, none⟩)) (by kernel_rfl) (by kernel_rfl) ?_
  simp only [nrm]
  refine list_val (.pointer (some ⟨gs, 0, none⟩)) (by kernel_rfl) (by kernel_rfl) ?_
  simp only [nrm]
  (refine wpList_step fun K hK => ?_; replace hK := hide hK; go_simp; refine unhide hK _ _ ?_; clear hK K)
  (refine wpList_step fun K hK => ?_; replace hK := hide hK; go_simp; refine unhide hK _ _ ?_; clear hK K)
  refine wpList_nil ?_
  go_upto_region 4 with fail
  refine wp_region_lit ?_
  refine list_val (.pointer (some ⟨gs, 0, none⟩)) (by kernel_rfl) (by kernel_rfl) ?_
  simp only [nrm]
  skip
  refine list_call 9 #[P0 gs] (by kernel_rfl) (by kernel_rfl) ((x_open (unhide hXs) (unhide hwd) (by omega) (unhide hf)).mono ?_)
  rintro r u2 ⟨l, H, rfl, hlx, hln, hg⟩
  refine ⟨_, rfl, ?_⟩
  have hX := hide hlx
  clear hlx hln
  clear hg
  simp only [nrm]
  refine list_val (.tuple #[.pointer (some ⟨l, 0, none⟩), .int .i64 0]) (by kernel_rfl) (by kernel_rfl) ?_
  simp only [nrm]
  refine list_val (.pointer (some ⟨l, 0, none⟩)) (by kernel_rfl) (by kernel_rfl) ?_
  simp only [nrm]
  refine list_val (.int .i64 0) (by kernel_rfl) (by kernel_rfl) ?_
  simp only [nrm]
  (refine wpList_step fun K hK => ?_; replace hK := hide hK; go_simp; refine unhide hK _ _ ?_; clear hK K)
  (refine wpList_step fun K hK => ?_; replace hK := hide hK; go_simp; refine unhide hK _ _ ?_; clear hK K)
  refine wpList_nil ?_
  go_upto_region 5 with fail
  refine wp_region_lit ?_
  refine list_val (.pointer (some ⟨gs, 0, none⟩)) (by kernel_rfl) (by kernel_rfl) ?_
  simp only [nrm]
  refine list_val (.bool false) (by kernel_rfl) (by kernel_rfl) ?_
  simp only [nrm]
  refine list_val (.bool false) (by kernel_rfl) (by kernel_rfl) ?_
  simp only [nrm]
  refine list_val (.int .i64 0) (by kernel_rfl) (by kernel_rfl) ?_
  simp only [nrm]
  refine list_val (.bool false) (by kernel_rfl) (by kernel_rfl) ?_
  simp only [nrm]
  refine list_val (.bool false) (by kernel_rfl) (by kernel_rfl) ?_
  simp only [nrm]
  refine wpList_nil ?_
  go_upto_region 7 with fail
  refine wp_region_lit ?_
  (refine wpList_step fun K hK => ?_; replace hK := hide hK; go_simp; refine unhide hK _ _ ?_; clear hK K)
  refine wpList_nil ?_
  go_upto_region 8 with fail
  refine wp_region_lit ?_
  (refine wpList_step fun K hK => ?_; replace hK := hide hK; go_simp; refine unhide hK _ _ ?_; clear hK K)
  refine wpList_nil ?_
  go_upto_region 9 with fail
  refine wp_region_lit ?_
  refine list_val (.slice a n c) (by kernel_rfl) (by kernel_rfl) ?_
  simp only [nrm]
  refine list_call 10 #[.slice a n c] (by kernel_rfl) (by kernel_rfl) ((few12_ok a n c hcn hcm u2).mono ?_)
  rintro r u3 ⟨rfl, hg⟩
  refine ⟨_, rfl, ?_⟩
  rw [← unhide hn3]
  replace hX := hide ((unhide hX).more hg)
  clear hg
  simp only [nrm]
  refine list_val (.int .i64 (n3 : Int)) (by kernel_rfl) (by kernel_rfl) ?_
  simp only [nrm]
  refine list_val (.int .i64 0) (by kernel_rfl) (by kernel_rfl) ?_
  simp only [nrm]
  refine wpList_nil ?_
  have hI0 : Hid (Dl v0 G gs gd zz 0 (P0 l) (.slice none 0 0) (.slice none 0 0) u3) := ⟨l, none, 0, 0, [], [], rfl, rfl, ⟨rfl, (fun x hx => by cases hx), .inl rfl, Nat.le_refl _, by omega⟩, F, H, D, 3, S0, [], unhide hX, unhide hDz, by omega, by omega, (fun g hg => by cases hg), (fun p e => by cases e), ⟨⟨(fun r hr => by cases hr), rfl, .inl ⟨rfl, rfl⟩⟩, rfl, fun i hi => absurd hi (Nat.not_lt_zero i)⟩⟩
  clear hX hXs hwd hDz hs0
  go_wp2_with fail
  go_loopw [41, 7, 9, 10] (fun i lv sv tv wr => ∃ j : Nat, j ≤ n3 ∧ i = .int .i64 (j : Int) ∧ Hid (Dl v0 G gs gd zz j lv sv tv wr)) (fun i _ _ _ _ => n3 - (intOf i).toNat)
  case atStart => exact ⟨0, by omega, rfl, hI0⟩
  case round =>
  clear hI0
  obtain ⟨j, hj, rfl, hA⟩ := hrel
  by_cases hlt : j < n3
  · skip
    have jI : (j : Int) < (n3 : Int) := by omega
    have ej : IntKind.i64.wrap ((j : Int) + 1) = ((j + 1 : Nat) : Int) := by rw [IntKind.wrap_i64]; omega
    obtain ⟨l9, sa, sn, sc, L, X, rfl, rfl, hsL, hDt⟩ := unhide hA
    clear hA
    obtain ⟨p, o, z, ai, ni, ci, S, rfl, -, hc0, hc1, hLb, hz1⟩ := (unhide hOs).at_ j (by omega)
    have hcap := hLb.cap
    have hcmx := hLb.max
    obtain ⟨nx, hnx⟩ : ∃ k, k = min ni 2500 := ⟨_, rfl⟩
    have hnx2 : nx ≤ ni ∧ nx ≤ 2500 := by omega
    have hLx := hLb.pre nx hnx2.1
    obtain ⟨x, hx⟩ : ∃ x, x = S.take nx := ⟨_, rfl⟩
    rw [← hx] at hLx
    have hxl := hLx.len
    have hxb := hLx.isB
    obtain ⟨t, ht⟩ : ∃ t : Int, t = IntKind.u64.wrap z % 3 := ⟨_, rfl⟩
    have ht3 : 0 ≤ t ∧ t < 3 := by omega
    obtain ⟨xa, xc, rfl, hlq⟩ := hDt.lq
    obtain ⟨xn, hxn⟩ : ∃ k, k = X.length := ⟨_, rfl⟩
    rw [← hxn] at hDt hlq ⊢
    obtain ⟨b1, b2, b3⟩ := hDt.bnd
    have hrg := hide (range_gr (range_two hc0 hc1) hDt.grw)
    replace hnx := hide hnx; replace hLx := hide hLx; replace ht := hide ht; replace hDt := hide hDt; replace hsL := hide hsL; replace hxl := hide hxl; replace hxb := hide hxb; replace hlq := hide hlq; replace hxn := hide hxn
    clear hLb hx hc0 hc1
    have hB := Bl.nil wr
    go_upto_region 11 with fail
    refine wp_region_lit ?_
    refine list_val (.pointer (some ⟨p, o + 2 * j, none⟩)) (by kernel_rfl) (exec_iop _ (.tmp 39) (.tmp 41) rfl p o n3 c j (by kernel_rfl) (by kernel_rfl) hlt) ?_
    simp only [nrm]
    refine list_val (.agg #[.int .i64 z, .slice ai ni ci]) (by kernel_rfl) (exec_row _ 36 (.tmp 43) rfl p (o + 2 * j) (by kernel_rfl) [.int .i64 z, .slice ai ni ci] _ (unhide hrg) Tryd.underlying36 rfl (by rw [Tryd.infoOp12]; rfl)) ?_
    simp only [nrm]
    refine list_valw (.pointer (some ⟨wr.heap.size, 0, none⟩)) (wr.alloc (.cells (#[.int .i64 0, .slice none 0 0]) 36 (0, 0))) (by kernel_rfl) (by kernel_rfl) ?_
    replace hB := hB.new (#[.int .i64 0, .slice none 0 0]) 36
    simp only [List.nil_append, List.cons_append] at hB
    generalize World.alloc _ _ = y1 at *
    generalize wr.heap.size = gx at *
    replace hB : Bl wr [⟨gx, #[.int .i64 0, .slice none 0 0], 36⟩] y1 := hB
    simp only [nrm]
    refine list_store 36 (.tmp 12) (.tmp 44) (gx) (#[.int .i64 z, .slice ai ni ci]) 36 (#[.int .i64 0, .slice none 0 0]) (by kernel_rfl) rfl (by kernel_rfl) (by kernel_rfl) (hB.get 0 (x := ⟨gx, #[.int .i64 0, .slice none 0 0], 36⟩) rfl) (by rw [Tryd.infoOp12]; rfl) rfl (by kernel_rfl) ?_
    replace hB := hB.set 0 (x := ⟨gx, #[.int .i64 0, .slice none 0 0], 36⟩) rfl (#[.int .i64 z, .slice ai ni ci])
    simp only [List.set_cons_zero, List.set_cons_succ] at hB
    generalize World.setRow _ _ _ = y2 at *
    replace hB : Bl wr [⟨gx, #[.int .i64 z, .slice ai ni ci], 36⟩] y2 := hB
    simp only [nrm]
    refine wpList_nil ?_
    replace hB := hide hB
    go_upto_region 12 with fail
    replace hB := unhide hB
    refine wp_region_lit ?_
    refine list_val (.agg #[.int .i64 z, .slice ai ni ci]) (by kernel_rfl) (exec_arr _ 36 (.tmp 12) rfl gx (by kernel_rfl) #[.int .i64 z, .slice ai ni ci] 36 _ (hB.get 0 (x := ⟨gx, #[.int .i64 z, .slice ai ni ci], 36⟩) rfl) Tryd.underlying36 rfl (by rw [Tryd.infoOp12]; rfl)) ?_
    simp only [nrm]
    refine list_call 11 #[.agg #[.int .i64 z, .slice ai ni ci]] (by kernel_rfl) (by kernel_rfl) ((bytes12_ok z ai ni ci hcap hcmx _).mono ?_)
    rintro r y3 ⟨rfl, hg⟩
    refine ⟨_, rfl, ?_⟩
    rw [← unhide hnx]
    replace hB := hB.more hg
    clear hg
    simp only [nrm]
    (refine wpList_step fun K hK => ?_; replace hK := hide hK; go_simp; refine unhide hK _ _ ?_; clear hK K)
    refine wpList_nil ?_
    obtain ⟨n9, hn9⟩ : ∃ k, k = nx + 3 := ⟨_, rfl⟩
    have hn9b : nx ≤ n9 ∧ n9 ≤ 2503 := by omega
    have e9 : IntKind.i64.wrap ((nx : Int) + 3) = (n9 : Int) := by rw [IntKind.wrap_i64]; omega
    replace hn9 := hide hn9
    replace hB := hide hB
    go_upto_region 13 with fail
    replace hB := unhide hB
    refine wp_region_lit ?_
    refine list_val (.slice ai nx ci) (by kernel_rfl) (by kernel_rfl) ?_
    simp only [nrm]
    refine list_val (.int .i64 (nx : Int)) (by kernel_rfl) (by kernel_rfl) ?_
    simp only [nrm]
    refine list_val (.int .i64 (n9 : Int)) (by kernel_rfl) (by go_simp) ?_
    simp only [nrm]
    refine wpList_step fun K_ hQ => ?_
    rw [if_pos (by kernel_rfl)]
    refine make_op (.const (.int .i64 0)) (.tmp 49) rfl 0 n9 (by kernel_rfl) (by kernel_rfl) (by omega) (by omega) ?_
    have hO0 : Hid (Ob wr.heap.size (y3.alloc (.cells (kc (List.replicate n9 0)) 5 (0, 0))) (.slice (some ⟨y3.heap.size, 0, none⟩) 0 n9) []) := by
      show Ob _ _ _ _
      exact ob_make y3 wr.heap.size n9 hB.gr.size (by unfold maxLen; omega)
    have hg0 := (Gr.refl y3).alloc (.cells (kc (List.replicate n9 0)) 5 (0, 0))
    replace hB := hB.more hg0
    clear hg0
    refine hQ _ _ ?_
    clear hQ K_
    generalize hal_ : World.alloc _ _ = y4 at *
    clear hal_
    obtain ⟨tv, htv⟩ : ∃ v, v = Value.slice (some ⟨y3.heap.size, 0, none⟩) 0 n9 := ⟨_, rfl⟩
    rw [← htv] at hO0 ⊢
    clear htv
    simp only [nrm]
    refine list_val (.slice ai nx ci) (by kernel_rfl) (by kernel_rfl) ?_
    simp only [nrm]
    have hLy := (unhide hLx).gr ((unhide hDt).grw.trans hB.gr)
    refine app_bs (by kernel_rfl) (.tmp 50) (.tmp 51) rfl wr.heap.size _ _ rfl (unhide hO0) ai nx ci x rfl (unhide hxl) hLy.sl (by simp only [List.length_nil, Nat.zero_add]; omega) hB.gr.size ?_
    intro tv2 y5 hO1 hgr
    have hG5 : Gr wr y5 := (unhide hO0).grown (Nat.le_refl _) hB.gr hgr
    have hb5 : y5.heap[gx]? = some (.cells (#[.int .i64 z, .slice ai ni ci]) 36 (0, 0)) := ob_other (unhide hO0) hgr (hB.get 0 (x := ⟨gx, #[.int .i64 z, .slice ai ni ci], 36⟩) rfl) (fun c e => by injection e with _ e2 _; exact absurd e2 (by decide))
    have hgx9 := hB.own 0 (x := ⟨gx, #[.int .i64 z, .slice ai ni ci], 36⟩) rfl
    clear hB
    have hB : Bl wr [⟨gx, #[.int .i64 z, .slice ai ni ci], 36⟩] y5 := (bl_one hG5 hb5 hgx9)
    rw [List.nil_append] at hO1
    replace hO1 := hide hO1
    clear hO0 hgr hG5 hb5 hLy
    simp only [nrm]
    refine list_valw (.slice (some ⟨y5.heap.size, 0, none⟩) 1 1) (y5.alloc (.cells (kc [7]) 5 (0, 0))) (by kernel_rfl) (by kernel_rfl) ?_
    have hg0 := (Gr.refl y5).alloc (.cells (kc [7]) 5 (0, 0))
    have hs7 : Sl (y5.alloc (.cells (kc [7]) 5 (0, 0))) (some ⟨y5.heap.size, 0, none⟩) [7] := .inr ⟨_, 0, rfl, fun j hj => by rw [Nat.zero_add]; exact cell_of (blk_new _ _) (kc_get [7] j hj)⟩
    replace hB := hB.more hg0; replace hO1 := hide ((unhide hO1).gr hg0)
    clear hg0
    generalize World.alloc _ _ = y6 at *
    generalize y5.heap.size = g7 at *
    simp only [nrm]
    refine app_bs (by kernel_rfl) (.tmp 52) (.tmp 53) rfl wr.heap.size _ _ rfl (unhide hO1) (some ⟨g7, 0, none⟩) 1 1 [7] rfl rfl hs7 (by rw [unhide hxl]; omega) hB.gr.size ?_
    intro tv3 y7 hO2 hgr
    have hG5 : Gr wr y7 := (unhide hO1).grown (Nat.le_refl _) hB.gr hgr
    have hb5 : y7.heap[gx]? = some (.cells (#[.int .i64 z, .slice ai ni ci]) 36 (0, 0)) := ob_other (unhide hO1) hgr (hB.get 0 (x := ⟨gx, #[.int .i64 z, .slice ai ni ci], 36⟩) rfl) (fun c e => by injection e with _ e2 _; exact absurd e2 (by decide))
    clear hB
    have hB : Bl wr [⟨gx, #[.int .i64 z, .slice ai ni ci], 36⟩] y7 := (bl_one hG5 hb5 hgx9)
    obtain ⟨go, cw, rfl, o1, o2, o3, o4, hOw⟩ := own_at hO2
    obtain ⟨nw, hnw⟩ : ∃ k, k = nx + 1 := ⟨_, rfl⟩
    rw [unhide hxl, ← hnw] at o3 ⊢
    have hnwb : nx ≤ nw ∧ nw ≤ cw := by omega
    replace hDt := hide ((unhide hDt).add hB.gr go o1 o2)
    replace hOw := hide hOw; replace hnw := hide hnw
    clear hO1 hO2 hgr hG5 hb5 hs7
    simp only [nrm]
    (refine wpList_step fun K hK => ?_; replace hK := hide hK; go_simp; refine unhide hK _ _ ?_; clear hK K)
    refine wpList_nil ?_
    replace hB := hide hB
    go_upto_region 14 with fail
    replace hB := unhide hB
    refine wp_region_lit ?_
    refine list_val (.agg #[.int .i64 z, .slice ai ni ci]) (by kernel_rfl) (exec_arr _ 36 (.tmp 12) rfl gx (by kernel_rfl) #[.int .i64 z, .slice ai ni ci] 36 _ (hB.get 0 (x := ⟨gx, #[.int .i64 z, .slice ai ni ci], 36⟩) rfl) Tryd.underlying36 rfl (by rw [Tryd.infoOp12]; rfl)) ?_
    simp only [nrm]
    refine list_call 12 #[.agg #[.int .i64 z, .slice ai ni ci]] (by kernel_rfl) (by kernel_rfl) ((kind12_ok z ai ni ci _).mono ?_)
    rintro r y8 ⟨rfl, hg⟩
    refine ⟨_, rfl, ?_⟩
    rw [← unhide ht]
    replace hDt := hide ((unhide hDt).gr hg)
    replace hOw := hide ((unhide hOw).same (hg.block go o2))
    replace hlq := hide ((unhide hlq).gr (hB.gr.trans hg))
    have o5 : go < y8.heap.size := Nat.lt_of_lt_of_le o2 hg.size
    clear hg
    simp only [nrm]
    refine wpList_nil ?_
    clear hB hgx9 hrg
    have hmem : go ∈ [go] := List.mem_singleton.2 rfl
    go_upto_region 18 with fail
    rename_i K1_ hK1_ K0_ hK0_
    replace hK1_ := hide hK1_
    by_cases ht0 : t = 0
    · skip
      subst ht0
      refine wp_region_lit ?_
      refine list_val (.bool true) (by kernel_rfl) (by kernel_rfl) ?_
      simp only [nrm]
      (refine wpList_step fun K hK => ?_; replace hK := hide hK; go_simp; refine unhide hK _ _ ?_; clear hK K)
      refine wpList_nil ?_
      obtain ⟨ux, hux⟩ : ∃ k, k = usd X := ⟨_, rfl⟩
      obtain ⟨nd, hnd⟩ : ∃ k, k = ned nx := ⟨_, rfl⟩
      have hnd9 : nedI (nx : Int) = (nd : Int) := by rw [hnd]; exact nedI_nat9 nx
      have hnd3 : nd ≤ 50 := by rw [hnd]; unfold ned; omega
      obtain ⟨sl, hsl⟩ : ∃ k, k = zz - lgo zz := ⟨_, rfl⟩
      have e5 : IntKind.i64.wrap ((ux : Int) + (nd : Int)) = ((ux + nd : Nat) : Int) := by rw [IntKind.wrap_i64]; omega
      obtain ⟨rm, hrm⟩ : ∃ b, b = decide (((ux + nd : Nat) : Int) ≤ (sl : Int)) := ⟨_, rfl⟩
      replace hux := hide hux; replace hnd := hide hnd; replace hsl := hide hsl; replace hrm := hide hrm; replace hnd9 := hide hnd9
      go_upto_region 19 with fail
      refine wp_region_lit ?_
      refine list_val (.slice xa xn xc) (by kernel_rfl) (by kernel_rfl) ?_
      simp only [nrm]
      refine list_call 13 #[.slice xa xn xc] (by kernel_rfl) (by kernel_rfl) ((used12_ok X xa xn xc _ (unhide hlq) (by rw [unhide hxn]; omega) (by omega)).mono ?_)
      rintro r z1 ⟨rfl, hg⟩
      refine ⟨_, rfl, ?_⟩
      rw [← unhide hux]
      replace hDt := hide ((unhide hDt).gr hg); replace hOw := hide ((unhide hOw).same (hg.block go o5)); replace hlq := hide ((unhide hlq).gr hg); replace o5 := Nat.lt_of_lt_of_le o5 hg.size
      clear hg
      simp only [nrm]
      refine list_val (.slice ai nx ci) (by kernel_rfl) (by kernel_rfl) ?_
      simp only [nrm]
      refine list_val (.int .i64 (nx : Int)) (by kernel_rfl) (by kernel_rfl) ?_
      simp only [nrm]
      refine list_call 14 #[.int .i64 (nx : Int)] (by kernel_rfl) (by kernel_rfl) ((rneed_ok (nx : Int) (by omega) (by omega) _).mono ?_)
      rintro r z2 ⟨rfl, hg⟩
      refine ⟨_, rfl, ?_⟩
      rw [unhide hnd9]
      replace hDt := hide ((unhide hDt).gr hg); replace hOw := hide ((unhide hOw).same (hg.block go o5)); replace hlq := hide ((unhide hlq).gr hg); replace o5 := Nat.lt_of_lt_of_le o5 hg.size
      clear hg
      simp only [nrm]
      refine list_val (.int .i64 ((ux + nd : Nat) : Int)) (by kernel_rfl) (by go_simp) ?_
      simp only [nrm]
      refine list_val (.pointer (some ⟨gs, 0, none⟩)) (by kernel_rfl) (by kernel_rfl) ?_
      simp only [nrm]
      refine list_call 15 #[.pointer (some ⟨gs, 0, none⟩)] (by kernel_rfl) (by kernel_rfl) ((dt_slots (unhide hDt)).mono ?_)
      rintro r z3 ⟨rfl, hg⟩
      refine ⟨_, rfl, ?_⟩
      rw [← unhide hsl]
      replace hDt := hide ((unhide hDt).gr hg); replace hOw := hide ((unhide hOw).same (hg.block go o5)); replace hlq := hide ((unhide hlq).gr hg); replace o5 := Nat.lt_of_lt_of_le o5 hg.size
      clear hg
      simp only [nrm]
      refine list_val (.bool rm) (by kernel_rfl) (by rw [unhide hrm]; go_simp) ?_
      simp only [nrm]
      (refine wpList_step fun K hK => ?_; replace hK := hide hK; go_simp; refine unhide hK _ _ ?_; clear hK K)
      refine wpList_nil ?_
      go_upto_region 20 with fail
      refine wp_region_lit ?_
      refine list_val (.pointer (some ⟨l9, 0, none⟩)) (by kernel_rfl) (by kernel_rfl) ?_
      simp only [nrm]
      refine list_val (.slice ai nx ci) (by kernel_rfl) (by kernel_rfl) ?_
      simp only [nrm]
      refine list_val (.int .i64 (nx : Int)) (by kernel_rfl) (by kernel_rfl) ?_
      simp only [nrm]
      refine list_call 16 #[.pointer (some ⟨l9, 0, none⟩), .int .i64 (nx : Int)] (by kernel_rfl) (by kernel_rfl) ((dt_room (unhide hDt) (nx : Int) (by omega) (by omega)).mono ?_)
      rintro r z4 ⟨rfl, hg⟩
      refine ⟨_, rfl, ?_⟩
      rw [show decide ((0 : Int) ≤ (nx : Int) ∧ nedI (nx : Int) ≤ ((zz - lgo zz - usd X : Nat) : Int)) = rm from by rw [unhide hrm, unhide hnd9, ← unhide hsl, ← unhide hux]; exact decide_eq_decide.2 (by have := unhide hux; have := unhide hsl; omega)]
      replace hDt := hide ((unhide hDt).gr hg); replace hOw := hide ((unhide hOw).same (hg.block go o5)); replace hlq := hide ((unhide hlq).gr hg); replace o5 := Nat.lt_of_lt_of_le o5 hg.size
      clear hg
      simp only [nrm]
      refine list_val (.bool rm) (by kernel_rfl) (by kernel_rfl) ?_
      simp only [nrm]
      refine list_val (.bool false) (by kernel_rfl) (by cases rm <;> kernel_rfl) ?_
      simp only [nrm]
      refine wpList_nil ?_
      go_upto_region 22 with fail
      cases rm
      · skip
        have hno : ¬ usd X + ned nx ≤ zz - lgo zz := fun h => by have h9 := unhide hrm; rw [eq_comm, decide_eq_false_iff_not] at h9; have := unhide hux; have := unhide hsl; have := unhide hnd; omega
        refine wp_region_lit ?_
        refine list_val (.pointer (some ⟨l9, 0, none⟩)) (by kernel_rfl) (by kernel_rfl) ?_
        simp only [nrm]
        refine list_val (.slice (some ⟨go, 0, none⟩) nw cw) (by kernel_rfl) (by kernel_rfl) ?_
        simp only [nrm]
        refine list_val (.slice ai nx ci) (by kernel_rfl) (by kernel_rfl) ?_
        simp only [nrm]
        refine list_val (.int .i64 (nx : Int)) (by kernel_rfl) (by kernel_rfl) ?_
        simp only [nrm]
        refine list_val (.slice (some ⟨go, 0, none⟩) nx cw) (by kernel_rfl) (exec_upto2 _ (.tmp 82) (.tmp 84) rfl (some ⟨go, 0, none⟩) nw cw nx (by kernel_rfl) (by kernel_rfl) hnwb.2 hnwb.1) ?_
        simp only [nrm]
        refine list_call 17 #[.pointer (some ⟨l9, 0, none⟩), .slice (some ⟨go, 0, none⟩) nx cw] (by kernel_rfl) (by kernel_rfl) ((dt_full (unhide hDt) (some ⟨go, 0, none⟩) nx cw hnx2.2 hno).mono ?_)
        rintro r z5 ⟨rfl, hg⟩
        refine ⟨_, rfl, ?_⟩
        replace hDt := hide ((unhide hDt).gr hg); replace hOw := hide ((unhide hOw).same (hg.block go o5)); replace hlq := hide ((unhide hlq).gr hg); replace o5 := Nat.lt_of_lt_of_le o5 hg.size
        replace hDt := hide (unhide hDt).up
        clear hg
        simp only [nrm]
        (refine wpList_step fun K hK => ?_; replace hK := hide hK; go_simp; refine unhide hK _ _ ?_; clear hK K)
        refine wpList_nil ?_
        go_upto_region 23 with fail
        refine wp_region_lit ?_
        refine list_val (.bool false) (by kernel_rfl) (by kernel_rfl) ?_
        simp only [nrm]
        refine list_val_offs 2 (.bool false) (by kernel_rfl) (by kernel_rfl) (by kernel_rfl) ?_
        simp only [List.drop_succ_cons, List.drop_zero, List.take_succ_cons, List.take_zero, putU]
        simp only [nrm]
        refine list_val (.bool false) (by kernel_rfl) (by kernel_rfl) ?_
        simp only [nrm]
        refine list_val (.bool false) (by kernel_rfl) (by kernel_rfl) ?_
        simp only [nrm]
        refine list_val (.bool false) (by kernel_rfl) (by kernel_rfl) ?_
        simp only [nrm]
        refine list_val (.bool true) (by kernel_rfl) (by kernel_rfl) ?_
        simp only [nrm]
        refine list_val (.bool true) (by kernel_rfl) (by kernel_rfl) ?_
        simp only [nrm]
        refine list_val (.int .i64 6) (by kernel_rfl) (by kernel_rfl) ?_
        simp only [nrm]
        refine list_val (.bool false) (by kernel_rfl) (by kernel_rfl) ?_
        simp only [nrm]
        refine list_val (.bool false) (by kernel_rfl) (by kernel_rfl) ?_
        simp only [nrm]
        refine list_val (.bool false) (by kernel_rfl) (by kernel_rfl) ?_
        simp only [nrm]
        refine wpList_nil ?_
        go_upto_region 25 with fail
        refine wp_region_lit ?_
        refine list_val (.bool false) (by kernel_rfl) (by kernel_rfl) ?_
        simp only [nrm]
        refine wpList_nil ?_
        go_wp2_with fail
        have hxq := unhide hxn
        subst hxq
        refine unhide hK1_ _ _ ?_
        clear hK1_ K1_
        refine wp_code_eq (c := tailD) (by kernel_rfl) ?_
        refine does_tail v0 _ (by exact fun _ _ _ _ _ h => h) G gs gd zz (j + 1) l9 go L x X (.slice xa X.length xc) z5 (unhide hDt) sa sn sc (unhide hsL) ai nx ci nw cw (unhide hLx) (unhide hnw) hnx2.2 (unhide hOw) _ _ _ _ _ _ _ _ _ _ _ _ _ _ _ _ _ _ _ _ _ _ _ _ _ _ _ _ _ _ _ _ _ _ _ _ _ _ _ _ _ _ _ _ _ _ _ _ _ _ _ _ _ _ _ _ _ _ _ _ _ _ _ _ _ _ _ _ _ _ _ _ _ _ _ _ _ _ _ _ _ _ _ _ _ _ _ _ _ _ _ _ _ _ _ _ _ _ _ _ _ _ _ _ _ _ _ _ _ _ _ _ _ _ _ _ _ _ _ _ _ _ _ _ _ _ _ _ _ _ _ _ _ _ _ _ _ _ _ _ _ _ _ _ _ _ _ _ _ _ _ _ _ _ _ _ _ _ _ _ ?_
        intro _ _ _ _ _ _ _ _ _ _ _ _ _ _ _ _ _ _ _ _ _ _ _ _ _ _ _ _ _ _ _ _ _ w9 hD9
        have hI2 : Hid (Dl v0 G gs gd zz (j + 1) (P0 l9) (.slice sa sn sc) (.slice xa X.length xc) w9) := ⟨l9, sa, sn, sc, L, X, rfl, rfl, unhide hsL, hD9⟩
        clear hD9 hDt hOw
        go_wp2_with fail
        go_roundw
        case rel => exact ⟨j + 1, by omega, by go_num, hI2⟩
        case measure => simp [intOf]; omega
      · skip
        have hfit : usd X + ned nx ≤ zz - lgo zz := by have h9 := unhide hrm; rw [eq_comm, decide_eq_true_eq] at h9; have := unhide hux; have := unhide hsl; have := unhide hnd; omega
        refine wp_region_lit ?_
        refine list_val (.pointer (some ⟨l9, 0, none⟩)) (by kernel_rfl) (by kernel_rfl) ?_
        simp only [nrm]
        refine list_val (.slice (some ⟨go, 0, none⟩) nw cw) (by kernel_rfl) (by kernel_rfl) ?_
        simp only [nrm]
        refine list_val (.slice ai nx ci) (by kernel_rfl) (by kernel_rfl) ?_
        simp only [nrm]
        refine list_val (.int .i64 (nx : Int)) (by kernel_rfl) (by kernel_rfl) ?_
        simp only [nrm]
        refine list_val (.slice (some ⟨go, 0, none⟩) nx cw) (by kernel_rfl) (exec_upto2 _ (.tmp 82) (.tmp 84) rfl (some ⟨go, 0, none⟩) nw cw nx (by kernel_rfl) (by kernel_rfl) hnwb.2 hnwb.1) ?_
        simp only [nrm]
        refine list_call 17 #[P0 l9, .slice (some ⟨go, 0, none⟩) nx cw] (by kernel_rfl) (by kernel_rfl) ((dt_app (unhide hDt) (by omega) (unhide hf) go hmem nx cw x ((unhide hOw).lb (unhide hxb) (unhide hxl) (by omega) o4) hnx2.2 hfit).mono ?_)
        rintro r z5 ⟨rfl, hD5, hk5⟩
        replace hDt := hide hD5
        replace hOw := hide ((unhide hOw).same (hk5 go hmem))
        clear hD5 hk5 hlq
        refine ⟨_, rfl, ?_⟩
        simp only [nrm]
        (refine wpList_step fun K hK => ?_; replace hK := hide hK; go_simp; refine unhide hK _ _ ?_; clear hK K)
        refine wpList_nil ?_
        go_upto_region 23 with fail
        refine wp_region_lit ?_
        refine list_val (.bool true) (by kernel_rfl) (by kernel_rfl) ?_
        simp only [nrm]
        refine list_val (.bool true) (by kernel_rfl) (by kernel_rfl) ?_
        simp only [nrm]
        refine list_val (.int .i64 0) (by kernel_rfl) (by kernel_rfl) ?_
        simp only [nrm]
        refine list_val (.bool false) (by kernel_rfl) (by kernel_rfl) ?_
        simp only [nrm]
        refine list_val (.bool false) (by kernel_rfl) (by kernel_rfl) ?_
        simp only [nrm]
        refine list_val (.bool false) (by kernel_rfl) (by kernel_rfl) ?_
        simp only [nrm]
        refine list_val (.bool true) (by kernel_rfl) (by kernel_rfl) ?_
        simp only [nrm]
        refine list_val (.bool false) (by kernel_rfl) (by kernel_rfl) ?_
        simp only [nrm]
        refine list_val_offs 2 (.bool false) (by kernel_rfl) (by kernel_rfl) (by kernel_rfl) ?_
        simp only [List.drop_succ_cons, List.drop_zero, List.take_succ_cons, List.take_zero, putU]
        simp only [nrm]
        refine list_val (.bool false) (by kernel_rfl) (by kernel_rfl) ?_
        simp only [nrm]
        refine list_val (.bool false) (by kernel_rfl) (by kernel_rfl) ?_
        simp only [nrm]
        refine wpList_nil ?_
        go_upto_region 25 with fail
        refine wp_region_lit ?_
        refine list_val (.bool true) (by kernel_rfl) (by kernel_rfl) ?_
        simp only [nrm]
        refine wpList_nil ?_
        go_upto_region 26 with fail
        refine wp_region_lit ?_
        refine list_val (.slice xa xn xc) (by kernel_rfl) (by kernel_rfl) ?_
        simp only [nrm]
        refine list_val (.slice ai nx ci) (by kernel_rfl) (by kernel_rfl) ?_
        simp only [nrm]
        refine list_valw (.slice (some ⟨z5.heap.size, 0, none⟩) 1 1) (z5.alloc (.cells #[.slice ai nx ci] 32 (0, 0))) (by kernel_rfl) (by kernel_rfl) ?_
        have hg := (Gr.refl z5).alloc (.cells #[.slice ai nx ci] 32 (0, 0))
        have hat1 : (z5.alloc (.cells #[.slice ai nx ci] 32 (0, 0))).rangeAt z5.heap.size 0 [.slice ai nx ci] := range_row (t := 32) (blk_new _ _)
        have o6 : go < z5.heap.size := lt_of_owc (unhide hOw)
        replace hDt := hide ((unhide hDt).gr hg); replace hOw := hide ((unhide hOw).same (hg.block go o6))
        clear hg o6
        generalize World.alloc _ _ = z6 at *
        generalize z5.heap.size = gz at *
        simp only [nrm]
        have hxq := unhide hxn
        obtain ⟨vs9, hT9⟩ := (unhide hDt).tv
        refine wpList_step fun K_ hQ => ?_
        rw [if_pos (by kernel_rfl)]
        refine app_row1 lt_s (.tmp 101) (.tmp 103) rfl _ (vs9.map fun s => [s]) rfl hT9.row gz 0 1 [.slice ai nx ci] rfl rfl hat1 (by intro q hq; rw [List.mem_singleton] at hq; subst hq; rfl) (by rw [List.length_map, hT9.len]; omega) ?_
        intro tx2 z7 hor5 hgr hown5
        have o7 : z7.heap[go]? = z6.heap[go]? := hgr.block go (lt_of_owc (unhide hOw)) (owc_ne (unhide hOw) hT9)
        replace hOw := hide ((unhide hOw).same o7)
        have hD7 := (unhide hDt).app2 hT9 (unhide hLx) (by omega) hgr hor5 hown5
        replace hDt := hide hD7
        obtain ⟨xa2, xc2, rfl, -⟩ := hD7.lq
        obtain ⟨xn2, hxn2⟩ : ∃ k, k = (X ++ [x]).length := ⟨_, rfl⟩
        rw [← hxn2] at hDt ⊢
        clear hxn2
        clear hgr hor5 hown5 hT9 hat1 hD7 o7
        refine hQ _ _ ?_
        clear hQ K_
        simp only [nrm]
        (refine wpList_step fun K hK => ?_; replace hK := hide hK; go_simp; refine unhide hK _ _ ?_; clear hK K)
        refine wpList_nil ?_
        go_wp2_with fail
        refine unhide hK1_ _ _ ?_
        clear hK1_ K1_
        refine wp_code_eq (c := tailD) (by kernel_rfl) ?_
        refine does_tail v0 _ (by exact fun _ _ _ _ _ h => h) G gs gd zz (j + 1) l9 go L x (X ++ [x]) (.slice xa2 xn2 xc2) z7 (unhide hDt) sa sn sc (unhide hsL) ai nx ci nw cw (unhide hLx) (unhide hnw) hnx2.2 (unhide hOw) _ _ _ _ _ _ _ _ _ _ _ _ _ _ _ _ _ _ _ _ _ _ _ _ _ _ _ _ _ _ _ _ _ _ _ _ _ _ _ _ _ _ _ _ _ _ _ _ _ _ _ _ _ _ _ _ _ _ _ _ _ _ _ _ _ _ _ _ _ _ _ _ _ _ _ _ _ _ _ _ _ _ _ _ _ _ _ _ _ _ _ _ _ _ _ _ _ _ _ _ _ _ _ _ _ _ _ _ _ _ _ _ _ _ _ _ _ _ _ _ _ _ _ _ _ _ _ _ _ _ _ _ _ _ _ _ _ _ _ _ _ _ _ _ _ _ _ _ _ _ _ _ _ _ _ _ _ _ _ _ ?_
        intro _ _ _ _ _ _ _ _ _ _ _ _ _ _ _ _ _ _ _ _ _ _ _ _ _ _ _ _ _ _ _ _ _ w9 hD9
        have hI2 : Hid (Dl v0 G gs gd zz (j + 1) (P0 l9) (.slice sa sn sc) (.slice xa2 xn2 xc2) w9) := ⟨l9, sa, sn, sc, L, (X ++ [x]), rfl, rfl, unhide hsL, hD9⟩
        clear hD9 hDt hOw
        go_wp2_with fail
        go_roundw
        case rel => exact ⟨j + 1, by omega, by go_num, hI2⟩
        case measure => simp [intOf]; omega
    by_cases ht1 : t = 1
    · skip
      subst ht1
      refine wp_region_lit ?_
      refine list_val (.bool false) (by kernel_rfl) (by kernel_rfl) ?_
      simp only [nrm]
      (refine wpList_step fun K hK => ?_; replace hK := hide hK; go_simp; refine unhide hK _ _ ?_; clear hK K)
      refine wpList_nil ?_
      go_upto_region 27 with fail
      refine wp_region_lit ?_
      refine list_val (.bool true) (by kernel_rfl) (by kernel_rfl) ?_
      simp only [nrm]
      (refine wpList_step fun K hK => ?_; replace hK := hide hK; go_simp; refine unhide hK _ _ ?_; clear hK K)
      refine wpList_nil ?_
      obtain ⟨rs, hrs⟩ : ∃ k, k = 64 * ((zz - 2) / 4) := ⟨_, rfl⟩
      replace hrs := hide hrs
      by_cases hfit : nx ≤ 64 * ((zz - 2) / 4)
      · skip
        have nI : (nx : Int) ≤ (rs : Int) := by have := unhide hrs; omega
        go_upto_region 28 with fail
        refine wp_region_lit ?_
        refine list_val (.pointer (some ⟨l9, 0, none⟩)) (by kernel_rfl) (by kernel_rfl) ?_
        simp only [nrm]
        refine list_val (.slice (some ⟨go, 0, none⟩) nw cw) (by kernel_rfl) (by kernel_rfl) ?_
        simp only [nrm]
        refine list_val (.slice ai nx ci) (by kernel_rfl) (by kernel_rfl) ?_
        simp only [nrm]
        refine list_val (.int .i64 (nx : Int)) (by kernel_rfl) (by kernel_rfl) ?_
        simp only [nrm]
        refine list_val (.slice (some ⟨go, 0, none⟩) nx cw) (by kernel_rfl) (exec_upto2 _ (.tmp 108) (.tmp 110) rfl (some ⟨go, 0, none⟩) nw cw nx (by kernel_rfl) (by kernel_rfl) hnwb.2 hnwb.1) ?_
        simp only [nrm]
        refine list_call 18 #[P0 l9, .slice (some ⟨go, 0, none⟩) nx cw] (by kernel_rfl) (by kernel_rfl) ((dt_chk (unhide hDt) (by omega) (unhide hf) go hmem nx cw x ((unhide hOw).lb (unhide hxb) (unhide hxl) (by omega) o4) hnx2.2 hfit).mono ?_)
        rintro r z5 ⟨rfl, hD5, hk5⟩
        replace hDt := hide hD5
        replace hOw := hide ((unhide hOw).same (hk5 go hmem))
        clear hD5 hk5 hlq
        refine ⟨_, rfl, ?_⟩
        simp only [nrm]
        (refine wpList_step fun K hK => ?_; replace hK := hide hK; go_simp; refine unhide hK _ _ ?_; clear hK K)
        refine wpList_nil ?_
        go_upto_region 29 with fail
        refine wp_region_lit ?_
        refine list_val (.slice ai nx ci) (by kernel_rfl) (by kernel_rfl) ?_
        simp only [nrm]
        refine list_val (.int .i64 (nx : Int)) (by kernel_rfl) (by kernel_rfl) ?_
        simp only [nrm]
        refine list_val (.pointer (some ⟨gs, 0, none⟩)) (by kernel_rfl) (by kernel_rfl) ?_
        simp only [nrm]
        refine list_call 19 #[.pointer (some ⟨gs, 0, none⟩)] (by kernel_rfl) (by kernel_rfl) ((dt_sroom (unhide hDt)).mono ?_)
        rintro r z6 ⟨rfl, hg⟩
        refine ⟨_, rfl, ?_⟩
        rw [← unhide hrs]
        replace hDt := hide ((unhide hDt).gr hg); replace hOw := hide ((unhide hOw).same (hg.block go (lt_of_owc (unhide hOw))))
        clear hg
        simp only [nrm]
        refine list_val (.bool true) (by kernel_rfl) (by go_simp) ?_
        simp only [nrm]
        (refine wpList_step fun K hK => ?_; replace hK := hide hK; go_simp; refine unhide hK _ _ ?_; clear hK K)
        refine wpList_nil ?_
        go_upto_region 30 with fail
        refine wp_region_lit ?_
        refine list_val (.bool true) (by kernel_rfl) (by kernel_rfl) ?_
        simp only [nrm]
        refine list_val (.bool true) (by kernel_rfl) (by kernel_rfl) ?_
        simp only [nrm]
        refine list_val (.int .i64 0) (by kernel_rfl) (by kernel_rfl) ?_
        simp only [nrm]
        refine list_val (.bool false) (by kernel_rfl) (by kernel_rfl) ?_
        simp only [nrm]
        refine list_val (.bool false) (by kernel_rfl) (by kernel_rfl) ?_
        simp only [nrm]
        refine list_val (.bool false) (by kernel_rfl) (by kernel_rfl) ?_
        simp only [nrm]
        refine list_val (.bool true) (by kernel_rfl) (by kernel_rfl) ?_
        simp only [nrm]
        refine list_val (.bool false) (by kernel_rfl) (by kernel_rfl) ?_
        simp only [nrm]
        refine list_val_offs 2 (.bool false) (by kernel_rfl) (by kernel_rfl) (by kernel_rfl) ?_
        simp only [List.drop_succ_cons, List.drop_zero, List.take_succ_cons, List.take_zero, putU]
        simp only [nrm]
        refine list_val (.bool false) (by kernel_rfl) (by kernel_rfl) ?_
        simp only [nrm]
        refine list_val (.bool false) (by kernel_rfl) (by kernel_rfl) ?_
        simp only [nrm]
        refine wpList_nil ?_
        go_upto_region 32 with fail
        refine wp_region_lit ?_
        refine list_val (.bool true) (by kernel_rfl) (by kernel_rfl) ?_
        simp only [nrm]
        refine wpList_nil ?_
        go_upto_region 33 with fail
        refine wp_region_lit ?_
        refine list_val (.slice ai nx ci) (by kernel_rfl) (by kernel_rfl) ?_
        simp only [nrm]
        (refine wpList_step fun K hK => ?_; replace hK := hide hK; go_simp; refine unhide hK _ _ ?_; clear hK K)
        (refine wpList_step fun K hK => ?_; replace hK := hide hK; go_simp; refine unhide hK _ _ ?_; clear hK K)
        refine wpList_nil ?_
        have hD8 := hide ((unhide hDt).nil)
        clear hDt
        have hDt := hD8
        clear hD8
        go_wp2_with fail
        refine unhide hK1_ _ _ ?_
        clear hK1_ K1_
        refine wp_code_eq (c := tailD) (by kernel_rfl) ?_
        refine does_tail v0 _ (by exact fun _ _ _ _ _ h => h) G gs gd zz (j + 1) l9 go x x [] (.slice none 0 0) z6 (unhide hDt) ai nx ci (unhide hLx) ai nx ci nw cw (unhide hLx) (unhide hnw) hnx2.2 (unhide hOw) _ _ _ _ _ _ _ _ _ _ _ _ _ _ _ _ _ _ _ _ _ _ _ _ _ _ _ _ _ _ _ _ _ _ _ _ _ _ _ _ _ _ _ _ _ _ _ _ _ _ _ _ _ _ _ _ _ _ _ _ _ _ _ _ _ _ _ _ _ _ _ _ _ _ _ _ _ _ _ _ _ _ _ _ _ _ _ _ _ _ _ _ _ _ _ _ _ _ _ _ _ _ _ _ _ _ _ _ _ _ _ _ _ _ _ _ _ _ _ _ _ _ _ _ _ _ _ _ _ _ _ _ _ _ _ _ _ _ _ _ _ _ _ _ _ _ _ _ _ _ _ _ _ _ _ _ _ _ _ _ ?_
        intro _ _ _ _ _ _ _ _ _ _ _ _ _ _ _ _ _ _ _ _ _ _ _ _ _ _ _ _ _ _ _ _ _ w9 hD9
        have hI2 : Hid (Dl v0 G gs gd zz (j + 1) (P0 l9) (.slice ai nx ci) (.slice none 0 0) w9) := ⟨l9, ai, nx, ci, x, [], rfl, rfl, unhide hLx, hD9⟩
        clear hD9 hDt hOw
        go_wp2_with fail
        go_roundw
        case rel => exact ⟨j + 1, by omega, by go_num, hI2⟩
        case measure => simp [intOf]; omega
      · skip
        have nI : ¬ (nx : Int) ≤ (rs : Int) := by have := unhide hrs; omega
        go_upto_region 28 with fail
        refine wp_region_lit ?_
        refine list_val (.pointer (some ⟨l9, 0, none⟩)) (by kernel_rfl) (by kernel_rfl) ?_
        simp only [nrm]
        refine list_val (.slice (some ⟨go, 0, none⟩) nw cw) (by kernel_rfl) (by kernel_rfl) ?_
        simp only [nrm]
        refine list_val (.slice ai nx ci) (by kernel_rfl) (by kernel_rfl) ?_
        simp only [nrm]
        refine list_val (.int .i64 (nx : Int)) (by kernel_rfl) (by kernel_rfl) ?_
        simp only [nrm]
        refine list_val (.slice (some ⟨go, 0, none⟩) nx cw) (by kernel_rfl) (exec_upto2 _ (.tmp 108) (.tmp 110) rfl (some ⟨go, 0, none⟩) nw cw nx (by kernel_rfl) (by kernel_rfl) hnwb.2 hnwb.1) ?_
        simp only [nrm]
        refine list_call 18 #[P0 l9, .slice (some ⟨go, 0, none⟩) nx cw] (by kernel_rfl) (by kernel_rfl) ((dt_long (unhide hDt) (by omega) (some ⟨go, 0, none⟩) nx cw hnx2.2 hfit).mono ?_)
        rintro r z5 ⟨rfl, hD5, hk5⟩
        replace hDt := hide hD5.up
        replace hOw := hide ((unhide hOw).same (hk5 go hmem))
        clear hD5 hk5 hlq
        refine ⟨_, rfl, ?_⟩
        simp only [nrm]
        (refine wpList_step fun K hK => ?_; replace hK := hide hK; go_simp; refine unhide hK _ _ ?_; clear hK K)
        refine wpList_nil ?_
        go_upto_region 29 with fail
        refine wp_region_lit ?_
        refine list_val (.slice ai nx ci) (by kernel_rfl) (by kernel_rfl) ?_
        simp only [nrm]
        refine list_val (.int .i64 (nx : Int)) (by kernel_rfl) (by kernel_rfl) ?_
        simp only [nrm]
        refine list_val (.pointer (some ⟨gs, 0, none⟩)) (by kernel_rfl) (by kernel_rfl) ?_
        simp only [nrm]
        refine list_call 19 #[.pointer (some ⟨gs, 0, none⟩)] (by kernel_rfl) (by kernel_rfl) ((dt_sroom (unhide hDt)).mono ?_)
        rintro r z6 ⟨rfl, hg⟩
        refine ⟨_, rfl, ?_⟩
        rw [← unhide hrs]
        replace hDt := hide ((unhide hDt).gr hg); replace hOw := hide ((unhide hOw).same (hg.block go (lt_of_owc (unhide hOw))))
        clear hg
        simp only [nrm]
        refine list_val (.bool false) (by kernel_rfl) (by go_simp) ?_
        simp only [nrm]
        (refine wpList_step fun K hK => ?_; replace hK := hide hK; go_simp; refine unhide hK _ _ ?_; clear hK K)
        refine wpList_nil ?_
        go_upto_region 30 with fail
        refine wp_region_lit ?_
        refine list_val (.bool false) (by kernel_rfl) (by kernel_rfl) ?_
        simp only [nrm]
        refine list_val_offs 2 (.bool false) (by kernel_rfl) (by kernel_rfl) (by kernel_rfl) ?_
        simp only [List.drop_succ_cons, List.drop_zero, List.take_succ_cons, List.take_zero, putU]
        simp only [nrm]
        refine list_val (.bool false) (by kernel_rfl) (by kernel_rfl) ?_
        simp only [nrm]
        refine list_val (.bool false) (by kernel_rfl) (by kernel_rfl) ?_
        simp only [nrm]
        refine list_val (.bool false) (by kernel_rfl) (by kernel_rfl) ?_
        simp only [nrm]
        refine list_val (.bool true) (by kernel_rfl) (by kernel_rfl) ?_
        simp only [nrm]
        refine list_val (.bool true) (by kernel_rfl) (by kernel_rfl) ?_
        simp only [nrm]
        refine list_val (.int .i64 3) (by kernel_rfl) (by kernel_rfl) ?_
        simp only [nrm]
        refine list_val (.bool false) (by kernel_rfl) (by kernel_rfl) ?_
        simp only [nrm]
        refine list_val (.bool false) (by kernel_rfl) (by kernel_rfl) ?_
        simp only [nrm]
        refine list_val (.bool false) (by kernel_rfl) (by kernel_rfl) ?_
        simp only [nrm]
        refine wpList_nil ?_
        go_upto_region 32 with fail
        refine wp_region_lit ?_
        refine list_val (.bool false) (by kernel_rfl) (by kernel_rfl) ?_
        simp only [nrm]
        refine wpList_nil ?_
        go_wp2_with fail
        have hxq := unhide hxn
        subst hxq
        refine unhide hK1_ _ _ ?_
        clear hK1_ K1_
        refine wp_code_eq (c := tailD) (by kernel_rfl) ?_
        refine does_tail v0 _ (by exact fun _ _ _ _ _ h => h) G gs gd zz (j + 1) l9 go L x X (.slice xa X.length xc) z6 (unhide hDt) sa sn sc (unhide hsL) ai nx ci nw cw (unhide hLx) (unhide hnw) hnx2.2 (unhide hOw) _ _ _ _ _ _ _ _ _ _ _ _ _ _ _ _ _ _ _ _ _ _ _ _ _ _ _ _ _ _ _ _ _ _ _ _ _ _ _ _ _ _ _ _ _ _ _ _ _ _ _ _ _ _ _ _ _ _ _ _ _ _ _ _ _ _ _ _ _ _ _ _ _ _ _ _ _ _ _ _ _ _ _ _ _ _ _ _ _ _ _ _ _ _ _ _ _ _ _ _ _ _ _ _ _ _ _ _ _ _ _ _ _ _ _ _ _ _ _ _ _ _ _ _ _ _ _ _ _ _ _ _ _ _ _ _ _ _ _ _ _ _ _ _ _ _ _ _ _ _ _ _ _ _ _ _ _ _ _ _ ?_
        intro _ _ _ _ _ _ _ _ _ _ _ _ _ _ _ _ _ _ _ _ _ _ _ _ _ _ _ _ _ _ _ _ _ w9 hD9
        have hI2 : Hid (Dl v0 G gs gd zz (j + 1) (P0 l9) (.slice sa sn sc) (.slice xa X.length xc) w9) := ⟨l9, sa, sn, sc, L, X, rfl, rfl, unhide hsL, hD9⟩
        clear hD9 hDt hOw
        go_wp2_with fail
        go_roundw
        case rel => exact ⟨j + 1, by omega, by go_num, hI2⟩
        case measure => simp [intOf]; omega
    · skip
      refine wp_region_lit ?_
      refine list_val (.bool false) (by kernel_rfl) (by go_simp) ?_
      simp only [nrm]
      (refine wpList_step fun K hK => ?_; replace hK := hide hK; go_simp; refine unhide hK _ _ ?_; clear hK K)
      refine wpList_nil ?_
      go_upto_region 27 with fail
      refine wp_region_lit ?_
      refine list_val (.bool false) (by kernel_rfl) (by go_simp) ?_
      simp only [nrm]
      (refine wpList_step fun K hK => ?_; replace hK := hide hK; go_simp; refine unhide hK _ _ ?_; clear hK K)
      refine wpList_nil ?_
      go_upto_region 15 with fail
      refine wp_region_lit ?_
      refine list_val (.pointer (some ⟨gs, 0, none⟩)) (by kernel_rfl) (by kernel_rfl) ?_
      simp only [nrm]
      refine list_call 9 #[P0 gs] (by kernel_rfl) (by kernel_rfl) ((dt_open (unhide hDt) (by omega) (unhide hf)).mono ?_)
      rintro r z5 ⟨l5, rfl, hD5, hg⟩
      replace hDt := hide hD5.up
      replace hOw := hide ((unhide hOw).same (hg.block go o5))
      clear hD5 hg hlq
      refine ⟨_, rfl, ?_⟩
      simp only [nrm]
      refine list_val (.tuple #[.pointer (some ⟨l5, 0, none⟩), .int .i64 0]) (by kernel_rfl) (by kernel_rfl) ?_
      simp only [nrm]
      refine list_val (.pointer (some ⟨l5, 0, none⟩)) (by kernel_rfl) (by kernel_rfl) ?_
      simp only [nrm]
      refine list_val (.int .i64 0) (by kernel_rfl) (by kernel_rfl) ?_
      simp only [nrm]
      (refine wpList_step fun K hK => ?_; replace hK := hide hK; go_simp; refine unhide hK _ _ ?_; clear hK K)
      (refine wpList_step fun K hK => ?_; replace hK := hide hK; go_simp; refine unhide hK _ _ ?_; clear hK K)
      refine wpList_nil ?_
      go_upto_region 16 with fail
      refine wp_region_lit ?_
      refine list_val (.int .i64 0) (by kernel_rfl) (by kernel_rfl) ?_
      simp only [nrm]
      refine list_val (.bool false) (by kernel_rfl) (by kernel_rfl) ?_
      simp only [nrm]
      refine wpList_nil ?_
      go_wp2_with fail
      have hxq := unhide hxn
      subst hxq
      refine unhide hK1_ _ _ ?_
      clear hK1_ K1_
      refine wp_code_eq (c := tailD) (by kernel_rfl) ?_
      refine does_tail v0 _ (by exact fun _ _ _ _ _ h => h) G gs gd zz (j + 1) l5 go L x X (.slice xa X.length xc) z5 (unhide hDt) sa sn sc (unhide hsL) ai nx ci nw cw (unhide hLx) (unhide hnw) hnx2.2 (unhide hOw) _ _ _ _ _ _ _ _ _ _ _ _ _ _ _ _ _ _ _ _ _ _ _ _ _ _ _ _ _ _ _ _ _ _ _ _ _ _ _ _ _ _ _ _ _ _ _ _ _ _ _ _ _ _ _ _ _ _ _ _ _ _ _ _ _ _ _ _ _ _ _ _ _ _ _ _ _ _ _ _ _ _ _ _ _ _ _ _ _ _ _ _ _ _ _ _ _ _ _ _ _ _ _ _ _ _ _ _ _ _ _ _ _ _ _ _ _ _ _ _ _ _ _ _ _ _ _ _ _ _ _ _ _ _ _ _ _ _ _ _ _ _ _ _ _ _ _ _ _ _ _ _ _ _ _ _ _ _ _ _ ?_
      intro _ _ _ _ _ _ _ _ _ _ _ _ _ _ _ _ _ _ _ _ _ _ _ _ _ _ _ _ _ _ _ _ _ w9 hD9
      have hI2 : Hid (Dl v0 G gs gd zz (j + 1) (P0 l5) (.slice sa sn sc) (.slice xa X.length xc) w9) := ⟨l5, sa, sn, sc, L, X, rfl, rfl, unhide hsL, hD9⟩
      clear hD9 hDt hOw
      go_wp2_with fail
      go_roundw
      case rel => exact ⟨j + 1, by omega, by go_num, hI2⟩
      case measure => simp [intOf]; omega
  have jI : ¬ (j : Int) < (n3 : Int) := by omega
  obtain ⟨l9, sa, sn, sc, L, X, rfl, rfl, hsL, hDt⟩ := unhide hA
  have hZ : Hid (Gr w wr) := (unhide hgw).trans hDt.grw
  clear hA hDt hsL
  go_wp2_with fail
  rw [unhide hT]
  exact ⟨rfl, unhide hZ⟩
end Go.Proofs.YtaoiejgjdmakjaaDoor
