/-
  The reference's Get.
-/
import Derived.Test.YtcefkkoombmndaaPJ
import Derived.Test.YtcefkkoombmndaaUQ
namespace Go.Proofs.Ytcefkkoombmndaa
open Go.RowKit
set_option maxRecDepth 100000
set_option linter.unusedSimpArgs false
set_option linter.unusedVariables false
theorem exec_neT {a : Act} {o : Oper} (w : World) (x y : Operand) (ho : o.op = .binOp .neq 9 x y 9) (s t : ByteArray) (hx : a.eval x = .string s) (hy : a.eval y = .string t) (b : Bool) (hb : decide (s = t) = b) :
    (execOp a.eval o).run Try.prog w = .ok (.value (.bool (!b))) w := by
  have e : (s.toList == t.toList) = decide (s = t) := by
    rw [ByteArray.toList_eq, ByteArray.toList_eq]
    by_cases h : s = t
    · rw [h]; simp
    · rw [decide_eq_false h, beq_eq_false_iff_ne]
      intro h2
      exact h (congrArg ByteArray.mk (Array.ext' h2))
  subst hb
  unfold execOp
  simp only [ho, hx, hy]
  go_simp
theorem Or_.bkP {k : Nat} {e : TypeId} {b g : Nat} {w v : World} {a : Option Addr} {n c : Nat} {R : List (List Value)} (h : Or_ k e b w (.slice a n c) R) {C : Array Value} {t : TypeId} (hg : w.heap[g]? = Option.some (Obj.cells C t (0, 0))) (m : Bt g w v) (hn : blkOf a ≠ Option.some g) : Or_ k e b v (.slice a n c) R := or_bk h m hn
theorem body_cells {n : Int} {Y : List Int} (hY : Y.length = 105) : (sp ([[.int .u32 n], bw Z105].flatten) 1 (Y.map (Value.int .u8))).toArray = fl [[.int .u32 n], bw Y] := by
  have h1 := sp_mid (Y.map (Value.int .u8)) [.int .u32 n] (bw Z105) [] (by rw [List.length_map, bw_len, Z105_len, hY])
  have e : [[Value.int .u32 n], bw Z105].flatten = [.int .u32 n] ++ (bw Z105 ++ []) := by simp
  rw [e, show (1 : Nat) = [Value.int .u32 n].length from rfl, h1]
  unfold fl bw
  simp
set_option maxHeartbeats 4000000 in
theorem rget_ok (L : List Int) (a : Option Addr) (n c : Nat) (hn9 : n ≤ 100000) (w : World) (lb : Lb w a n c L) : Calls Try.prog 31 #[.slice a n c] w (fun r_ w' => ∃ x', r_ = .returned (.tuple #[.agg (fl (cvs (gtM L).1 x')), .int .i64 (gtM L).2]) ∧ Cin w' (gtM L).1 x' ∧ Owx w.heap.size w' x' ∧ Gr w w') := by
  obtain ⟨T, hT⟩ : ∃ T : Ending → World → Prop, T = (fun r_ w' => ∃ x', r_ = .returned (.tuple #[.agg (fl (cvs (gtM L).1 x')), .int .i64 (gtM L).2]) ∧ Cin w' (gtM L).1 x' ∧ Owx w.heap.size w' x' ∧ Gr w w') := ⟨_, rfl⟩
  rw [← hT]
  replace hT := hide hT
  have hLl := lb.len
  have hLB := lb.isB
  have hcp := lb.cap
  replace lb := hide lb
  go_enter Try.func31, Try.ntmps31
  go_upto_region 1 with fail
  have hB := ((Bl.nil w).new (fl [[.int .u32 0], [.slice none 0 0], [.int .i64 0], [.int .u32 0], [.slice none 0 0]]) 26)
  simp only [size_alloc, List.nil_append, List.cons_append] at hB
  generalize hu_ : World.alloc _ _ = u0
  replace hB : Bl w [⟨w.heap.size, fl [[.int .u32 0], [.slice none 0 0], [.int .i64 0], [.int .u32 0], [.slice none 0 0]], 26⟩] u0 := by
    rw [← hu_]
    exact hB
  clear hu_
  by_cases h1 : n = 590
  · subst h1
    obtain ⟨p0, o0, rfl, hat⟩ : ∃ p o, a = some ⟨p, o, none⟩ ∧ At w p o L := by
      rcases (unhide lb).sl with h | ⟨p, o, h, h2⟩
      · rw [h] at hLl; cases hLl
      · exact ⟨p, o, h, h2⟩
    have b4 := hLB.at_ 4
    have b5 := hLB.at_ 5
    have b9 := hLB.at_ 430
    have c4 := hide (hat 4 (by omega))
    have c5 := hide (hat 5 (by omega))
    have c9 := hide (hat 430 (by omega))
    have hn0 := low4 hLB 0 (by omega)
    rw [List.drop_zero] at hn0
    replace hat := hide hat; replace hLB := hide hLB
    obtain ⟨nx, hnx⟩ : ∃ nx, nx = lowN (L.take 4) := ⟨_, rfl⟩
    obtain ⟨q4, hq4⟩ : ∃ q, q = L.getD 4 0 := ⟨_, rfl⟩
    obtain ⟨q5, hq5⟩ : ∃ q, q = L.getD 5 0 := ⟨_, rfl⟩
    obtain ⟨q9, hq9⟩ : ∃ q, q = L.getD 430 0 := ⟨_, rfl⟩
    rw [← hnx] at hn0
    rw [← hq4] at b4 c4
    rw [← hq5] at b5 c5
    rw [← hq9] at b9 c9
    replace hnx := hide hnx; replace hq4 := hide hq4; replace hq5 := hide hq5; replace hq9 := hide hq9
    refine wp_region_lit ?_
    refine lvk (.slice (some ⟨p0, o0, none⟩) 590 c) ?_
    simp only [nrm]
    refine lvk (.int .i64 590) ?_
    simp only [nrm]
    refine list_val (.bool false) (by kernel_rfl) (neq_i _ (.tmp 13) (.const (.int .i64 590)) 590 590 false rfl (by kernel_rfl) (by kernel_rfl) (by decide)) ?_
    simp only [nrm]
    refine wpList_nil ?_
    replace hB := hide hB
    go_upto_region 3 with fail
    replace hB := unhide hB
    refine any_start (S := fun v_ => Gr w v_) (by kernel_rfl) ?_
    replace hB := hB.drew
    generalize World.drew _ = u1 at *
    have hB0 := hide hB
    have hsz_ : u1.heap.size ≤ u1.heap.size := Nat.le_refl _
    simp only [List.size_toArray, List.length_cons, List.length_nil, Array.replicate, List.replicate]
    refine any_take (i := 0) (v := (.slice (some ⟨p0, o0, none⟩) 590 c)) (tf 9 0) rfl (by kernel_rfl) (by kernel_rfl) (by kernel_rfl) (by kernel_rfl) (fun _ _ _ h => h) (.inl ⟨by kernel_rfl, fun x_ hu => by kernel_rfl⟩) hB.gr ?_
    simp only [nrm]
    refine any_take (i := 2) (v := (.slice (some ⟨p0, o0, none⟩) 590 c)) (tf 9 1) rfl (by kernel_rfl) (by kernel_rfl) (by kernel_rfl) (by kernel_rfl) (fun _ _ _ h => h) (.inl ⟨by kernel_rfl, fun x_ hu => by kernel_rfl⟩) hB.gr ?_
    simp only [nrm]
    refine any_take (i := 3) (v := (.pointer (some ⟨p0, o0 + 5, none⟩))) #[true, false, true, false, false, false, false, false, false] rfl (by kernel_rfl) (by kernel_rfl) (by kernel_rfl) (by kernel_rfl) (fun _ _ _ h => h) (.inl ⟨by kernel_rfl, fun x_ hu => exec_ib _ (.tmp 18) (.const (.int .i64 5)) rfl p0 o0 590 c 5 (by kernel_rfl) rfl (by omega)⟩) hB.gr ?_
    simp only [nrm]
    refine any_take (i := 4) (v := (.int .u8 q5)) #[true, false, true, true, false, false, false, false, false] rfl (by kernel_rfl) (by kernel_rfl) (by kernel_rfl) (by kernel_rfl) (fun _ _ _ h => h) (.inl ⟨by kernel_rfl, fun x_ hu => exec_b _ (.tmp 19) rfl p0 (o0 + 5) (by kernel_rfl) q5 (hu.cell (unhide c5))⟩) hB.gr ?_
    simp only [nrm]
    refine any_take (i := 5) (v := (.int .i64 q5)) #[true, false, true, true, true, false, false, false, false] rfl (by kernel_rfl) (by kernel_rfl) (by kernel_rfl) (by kernel_rfl) (fun _ _ _ h => h) (.inl ⟨by kernel_rfl, fun x_ hu => conv_8i _ (.tmp 20) q5 rfl (by kernel_rfl) b5⟩) hB.gr ?_
    simp only [nrm]
    refine float_first (fun q u => NRc u1.heap.size (fl [[.int .u32 0], [.slice none 0 0], [.int .i64 0], [.int .u32 0], [.slice none 0 0]]) 26 u q) 4 (fun b_ => #[true, false, true, true, true, true, false, b_, false]) 7 1 false rfl rfl (fun v_ g_ => hB.gr.trans g_) (by kernel_rfl) (fun b_ => by cases b_ <;> rfl) ?_ ?_
    all_goals simp only [fw1, Act.put, List.setIfInBounds_toArray, List.set_cons_zero, List.set_cons_succ, List.getElem_toArray, List.getElem_cons_zero, List.getElem_cons_succ]
    · intro q_ x_ hgx K hK
      refine wpOp_step (o := _) rfl (fun K' hK' => ?_)
      replace hK' := hide hK'
      replace hK := hide hK
      refine step_val (.pointer (some ⟨x_.heap.size, 0, none⟩)) (x_.alloc (.cells (fl [[.int .u32 0], [.slice none 0 0], [.int .i64 0], [.int .u32 0], [.slice none 0 0]]) 26 (0, 0))) (by kernel_rfl) (by kernel_rfl) ?_
      exact unhide hK' _ _ (unhide hK _ _ ((Gr.refl _).alloc _) (⟨_, rfl, Nat.le_trans hsz_ hgx.size, blk_new _ _⟩))
    intro b1_1 q1_1 x1_1 hg hTq hall
    replace hsz_ := Nat.le_trans hsz_ hg.size
    replace hB := hB.more hg
    clear hg
    clear hall
    refine wpOp_step (o := _) rfl (fun K hK => ?_)
    replace hK := hide hK
    refine step_callw (by kernel_rfl) 48 #[.slice (some ⟨p0, o0, none⟩) 590 c] (by kernel_rfl) ((rnum_ok L (some ⟨p0, o0, none⟩) 590 c (by omega) x1_1 ((unhide lb).gr hB.gr)).mono ?_)
    rintro r y1 ⟨rfl, hg⟩
    refine ⟨_, rfl, ?_⟩
    replace hTq := fun e => NRc.gr (hTq e) hg
    rw [← unhide hnx]
    replace hsz_ := Nat.le_trans hsz_ hg.size
    replace hB := hB.more hg
    clear hg
    refine unhide hK _ _ ⟨hB.gr, ?_⟩
    clear hK K
    simp only [nrm]
    refine any_take (i := 6) (v := (.agg (fl [[.int .u32 nx], [.slice none 0 0], [.int .i64 q5], [.int .u32 0], [.slice none 0 0]]))) (tf 9 6) rfl (by kernel_rfl) (by kernel_rfl) (by kernel_rfl) (by kernel_rfl) (fun _ _ _ h => h) (.inl ⟨by kernel_rfl, fun x_ hu => bC02 _ (.tmp 17) (.tmp 21) rfl (by kernel_rfl) (by kernel_rfl)⟩) hB.gr ?_
    simp only [nrm]
    refine float_again (fun q u => NRc u1.heap.size (fl [[.int .u32 0], [.slice none 0 0], [.int .i64 0], [.int .u32 0], [.slice none 0 0]]) 26 u q) 4 (fun b_ => #[true, true, true, true, true, true, true, b_, false]) 7 8 true (b := b1_1) (q := q1_1) rfl rfl hTq (fun v_ g_ => hB.gr.trans g_) (by kernel_rfl) (fun b_ => by cases b_ <;> rfl) ?_ ?_
    all_goals simp only [fw1, Act.put, List.setIfInBounds_toArray, List.set_cons_zero, List.set_cons_succ, List.getElem_toArray, List.getElem_cons_zero, List.getElem_cons_succ]
    · intro q_ x_ hgx K hK
      refine wpOp_step (o := _) rfl (fun K' hK' => ?_)
      replace hK' := hide hK'
      replace hK := hide hK
      refine step_val (.pointer (some ⟨x_.heap.size, 0, none⟩)) (x_.alloc (.cells (fl [[.int .u32 0], [.slice none 0 0], [.int .i64 0], [.int .u32 0], [.slice none 0 0]]) 26 (0, 0))) (by kernel_rfl) (by kernel_rfl) ?_
      exact unhide hK' _ _ (unhide hK _ _ ((Gr.refl _).alloc _) (⟨_, rfl, Nat.le_trans hsz_ hgx.size, blk_new _ _⟩))
    clear hTq
    intro b1_8 q1_8 x1_8 hg hTq hall
    replace hsz_ := Nat.le_trans hsz_ hg.size
    replace hB := hB.more hg
    clear hg
    obtain rfl : b1_8 = true := hall (by trivial)
    replace hTq := hTq rfl
    clear hall
    obtain ⟨g4, rfl, hge_, hnew_⟩ := hTq
    replace hB := Bl.joinz (unhide hB0) hB hge_ hnew_
    simp only [List.cons_append, List.nil_append] at hB
    clear hB0 hge_ hnew_ hsz_
    refine wpOp_step (o := _) rfl (fun K hK => ?_)
    replace hK := hide hK
    refine step_all 26 (.tmp 4) (.tmp 22) (g4) (S2 := [[.int .u32 nx], [.slice none 0 0], [.int .i64 q5], [.int .u32 0], [.slice none 0 0]]) (by kernel_rfl) rfl (by kernel_rfl) (by kernel_rfl) hB 1 rfl NC (nC  _ _ _ _ _) (nC  _ _ _ _ _) (by kernel_rfl) (oC  rfl rfl rfl rfl rfl) ?_
    intro u2 hB_ hbt_
    clear hB
    replace hB : Bl w [⟨w.heap.size, fl [[.int .u32 0], [.slice none 0 0], [.int .i64 0], [.int .u32 0], [.slice none 0 0]], 26⟩, ⟨g4, fl [[.int .u32 nx], [.slice none 0 0], [.int .i64 q5], [.int .u32 0], [.slice none 0 0]], 26⟩] u2 := hB_
    clear hB_
    clear hbt_
    refine unhide hK _ _ ⟨hB.gr, ?_⟩
    clear hK K
    simp only [nrm]
    refine any_done (by kernel_rfl) ?_
    replace hB := hide hB
    go_upto_region 4 with fail
    replace hB := unhide hB
    refine wp_region_lit ?_
    refine lvk (.slice (some ⟨p0, o0, none⟩) 590 c) ?_
    simp only [nrm]
    refine list_val (.pointer (some ⟨p0, o0 + 4, none⟩)) (by kernel_rfl) (exec_ib _ (.tmp 23) (.const (.int .i64 4)) rfl p0 o0 590 c 4 (by kernel_rfl) (by kernel_rfl) (by omega)) ?_
    simp only [nrm]
    refine list_val (.int .u8 q4) (by kernel_rfl) (exec_b _ (.tmp 24) rfl p0 (o0 + 4) (by kernel_rfl) q4 (hB.gr.cell (unhide c4))) ?_
    simp only [nrm]
    refine list_val (.int .i64 q4) (by kernel_rfl) (conv_8i _ (.tmp 25) q4 rfl (by kernel_rfl) b4) ?_
    simp only [nrm]
    (refine wpList_step fun K hK => ?_; replace hK := hide hK; go_simp; refine unhide hK _ _ ?_; clear hK K)
    refine wpList_nil ?_
    by_cases hq : 4 < q4
    · replace hq := hide hq
      replace hB := hide hB
      go_upto_region 5 with fail
      replace hB := unhide hB
      refine wp_region_lit ?_
      refine lvk (.int .i64 q4) ?_
      simp only [nrm]
      refine list_val (.bool true) (by kernel_rfl) (gtr_i _ (.tmp 27) (.const (.int .i64 4)) q4 4 true rfl (by kernel_rfl) (by kernel_rfl) (decide_eq_true (unhide hq))) ?_
      simp only [nrm]
      refine wpList_nil ?_
      replace hB := hide hB
      go_upto_region 6 with fail
      replace hB := unhide hB
      refine wp_region_lit ?_
      refine list_val (.agg (fl [[.int .u32 0], [.slice none 0 0], [.int .i64 0], [.int .u32 0], [.slice none 0 0]])) (by kernel_rfl) (bC _ rfl) ?_
      simp only [nrm]
      refine list_all 26 (.tmp 2) (.tmp 29) (w.heap.size) (S2 := [[.int .u32 0], [.slice none 0 0], [.int .i64 0], [.int .u32 0], [.slice none 0 0]]) (by kernel_rfl) rfl (by kernel_rfl) (by kernel_rfl) hB 0 rfl NC (nC  _ _ _ _ _) (nC  _ _ _ _ _) (by kernel_rfl) (oC  rfl rfl rfl rfl rfl) ?_
      intro u3 hB_ hbt_
      clear hB
      replace hB : Bl w [⟨w.heap.size, fl [[.int .u32 0], [.slice none 0 0], [.int .i64 0], [.int .u32 0], [.slice none 0 0]], 26⟩, ⟨g4, fl [[.int .u32 nx], [.slice none 0 0], [.int .i64 q5], [.int .u32 0], [.slice none 0 0]], 26⟩] u3 := hB_
      clear hB_
      clear hbt_
      simp only [nrm]
      (refine wpList_step fun K hK => ?_; replace hK := hide hK; go_simp; refine unhide hK _ _ ?_; clear hK K)
      refine wpList_nil ?_
      replace hB := hide hB
      go_wp2_with fail
      replace hB := unhide hB
      rw [unhide hT]
      rw [show gtM L = (cz, 281) from gt_n hLl (by rw [← unhide hq4]; exact unhide hq)]
      exact bodyPost_ret (v := .tuple #[.agg (fl [[.int .u32 0], [.slice none 0 0], [.int .i64 0], [.int .u32 0], [.slice none 0 0]]), .int .i64 281]) (res2 Try.results31 (rv_cell (by kernel_rfl) (hB.get 0 (x := ⟨w.heap.size, fl [[.int .u32 0], [.slice none 0 0], [.int .i64 0], [.int .u32 0], [.slice none 0 0]], 26⟩) rfl) Try.underlying26 rfl (by rw [fl_size (nC  _ _ _ _ _)]; kernel_rfl)) (rv_tmp (by kernel_rfl))) rfl (⟨xz, rfl, cin_z _, owx_z _ _, hB.gr⟩)
    · obtain ⟨n, hnI⟩ : ∃ n : Nat, (n : Int) = q4 := ⟨q4.toNat, by omega⟩
      subst hnI
      have hn4 : n ≤ 4 := by omega
      have hqn : ¬ (4 < (n : Int)) := hq
      replace hqn := hide hqn
      obtain ⟨O, hO⟩ : ∃ O, O = rdO L (nx - (n : Int)) := ⟨_, rfl⟩
      have hOl : O.length = 4 := by rw [hO]; exact rdO_len _ _
      have hOk := hide (hO ▸ rdO_ok hLl (unhide hLB) (nx - (n : Int)) : ∀ s ∈ O, s.Ok)
      have hOat : ∀ i, i < 4 → O[i]? = some ⟨(nx - (n : Int) + (i : Int)) % 4294967296, (L.drop (6 + 105 * i)).take 105⟩ := fun i hi => by rw [hO]; exact rdO_at _ _ i hi
      replace hO := hide hO; replace hOat := hide hOat
      clear hq
      replace hB := hide hB
      go_upto_region 5 with fail
      replace hB := unhide hB
      refine wp_region_lit ?_
      refine lvk (.int .i64 (n : Int)) ?_
      simp only [nrm]
      refine list_val (.bool false) (by kernel_rfl) (gtr_i _ (.tmp 27) (.const (.int .i64 4)) (n : Int) 4 false rfl (by kernel_rfl) (by kernel_rfl) (decide_eq_false (unhide hqn))) ?_
      simp only [nrm]
      refine wpList_nil ?_
      replace hB := hide hB
      go_upto_region 7 with fail
      replace hB := unhide hB
      refine wp_region_lit ?_
      (refine wpList_step fun K hK => ?_; replace hK := hide hK; go_simp; refine unhide hK _ _ ?_; clear hK K)
      refine wpList_nil ?_
      replace hB := hide hB
      go_upto_region 8 with fail
      replace hB := unhide hB
      refine wp_region_lit ?_
      (refine wpList_step fun K hK => ?_; replace hK := hide hK; go_simp; refine unhide hK _ _ ?_; clear hK K)
      refine wpList_nil ?_
      replace hB := hide hB
      have hL := hide (or_none 106 39 w.heap.size u2)
      go_wp2_with fail
      go_loopw [6, 7] (fun u i wr => ∃ (j : Nat) (la : Option Addr) (lc : Nat), j ≤ 4 ∧ u = .int .i64 (6 + 105 * (j : Int)) ∧ i = .int .i64 (j : Int) ∧ Hid (Or_ 106 39 w.heap.size wr (.slice la (min j n) lc) ((O.take (min j n)).map otr)) ∧ Hid (Bl w [⟨w.heap.size, fl [[.int .u32 0], [.slice none 0 0], [.int .i64 0], [.int .u32 0], [.slice none 0 0]], 26⟩, ⟨g4, fl [[.int .u32 nx], [.slice la (min j n) lc], [.int .i64 q5], [.int .u32 0], [.slice none 0 0]], 26⟩] wr)) (fun _ i _ => 4 - (intOf i).toNat)
      case atStart => exact ⟨0, none, 0, by omega, by simp, rfl, (by rw [Nat.zero_min]; exact hL), (by rw [Nat.zero_min]; exact hB)⟩
      case round =>
      clear hB hL
      obtain ⟨j, la, lc, hj, rfl, rfl, hL, hB⟩ := hrel
      have hB := unhide hB
      by_cases hlt : j < 4
      · have jI : (j : Int) < 4 := by omega
        obtain ⟨of6, hu6⟩ : ∃ u : Nat, u = 6 + 105 * j := ⟨_, rfl⟩
        have hu8 : 6 + 105 * (j : Int) = (of6 : Int) := by omega
        rw [hu8]
        clear hu8
        have hu7 : (of6 : Int) + 105 = 6 + 105 * ((j + 1 : Nat) : Int) := by omega
        have hul : of6 + 105 ≤ 590 := by omega
        replace hu6 := hide hu6
        by_cases hjn : j < n
        · have jn : (j : Int) < (n : Int) := by omega
          have ek : min j n = j := by omega
          rw [ek] at hL hB
          clear ek
          have hsj := (unhide hOat) j hlt
          obtain ⟨s, hs⟩ : ∃ s : Ot, s = ⟨(nx - (n : Int) + (j : Int)) % 4294967296, (L.drop (6 + 105 * j)).take 105⟩ := ⟨_, rfl⟩
          rw [← hs] at hsj
          have hsn : (nx - ((n : Int) - (j : Int))) % 4294967296 = s.n := by rw [hs]; show _ = (nx - (n : Int) + (j : Int)) % 4294967296; omega
          have hsB : (L.drop of6).take 105 = s.B := by rw [hs, unhide hu6]
          have hok := (unhide hOk) s (List.mem_of_getElem? hsj)
          have etk : (O.take j).map otr ++ [otr s] = (O.take (j + 1)).map otr := by rw [List.take_add_one, hsj]; simp
          replace hok := hide hok; replace etk := hide etk; replace hsn := hide hsn; replace hsB := hide hsB; replace hu7 := hide hu7
          clear hs hsj
          replace hB := hide hB
          go_upto_region 11 with fail
          replace hB := unhide hB
          refine wp_region_lit ?_
          refine lvk (.int .i64 (j : Int)) ?_
          simp only [nrm]
          refine lvk (.int .i64 (n : Int)) ?_
          simp only [nrm]
          refine list_val (.bool true) (by kernel_rfl) (lss_i _ (.tmp 34) (.tmp 35) (j : Int) (n : Int) true rfl (by kernel_rfl) (by kernel_rfl) (decide_eq_true jn)) ?_
          simp only [nrm]
          refine wpList_nil ?_
          replace hB := hide hB
          go_upto_region 12 with fail
          replace hB := unhide hB
          refine wp_region_lit ?_
          refine lvk (.pointer (some ⟨g4, 0, none⟩)) ?_
          simp only [nrm]
          refine list_val (.int .u32 nx) (by kernel_rfl) (exec_c32 _ (.tmp 37) rfl (g4) 0 (by kernel_rfl) nx (seg_cell (nC  _ _ _ _ _) (hB.get 1 (x := ⟨g4, fl [[.int .u32 nx], [.slice la j lc], [.int .i64 q5], [.int .u32 0], [.slice none 0 0]], 26⟩) rfl) 0 (v := .int .u32 nx) rfl rfl)) ?_
          simp only [nrm]
          refine lvk (.int .i64 (n : Int)) ?_
          simp only [nrm]
          refine lvk (.int .i64 (j : Int)) ?_
          simp only [nrm]
          refine list_val (.int .i64 ((n : Int) - (j : Int))) (by kernel_rfl) (sub_i _ (.tmp 39) (.tmp 40) (n : Int) (j : Int) rfl (by kernel_rfl) (by kernel_rfl) _ rfl (by omega)) ?_
          simp only [nrm]
          refine list_val (.int .u32 ((n : Int) - (j : Int))) (by kernel_rfl) (conv_u32 _ (.tmp 41) ((n : Int) - (j : Int)) rfl (by kernel_rfl) (by omega)) ?_
          simp only [nrm]
          refine list_val (.int .u32 s.n) (by kernel_rfl) (sub_32w _ (.tmp 38) (.tmp 42) nx ((n : Int) - (j : Int)) rfl (by kernel_rfl) (by kernel_rfl) _ (unhide hsn)) ?_
          simp only [nrm]
          refine list_val (.agg (fl [[.int .u32 s.n], bw Z105])) (by kernel_rfl) (bO0 _ (.tmp 43) rfl (by kernel_rfl)) ?_
          simp only [nrm]
          have hne8 := or_new (unhide hL)
          refine list_valw (.pointer (some ⟨wr.heap.size, 0, none⟩)) (wr.alloc (.cells (fl [[.int .u32 0], bw Z105]) 39 (0, 0))) (by kernel_rfl) (by kernel_rfl) ?_
          replace hB := hB.new (fl [[.int .u32 0], bw Z105]) 39
          simp only [List.nil_append, List.cons_append] at hB
          have hg := (Gr.refl wr).alloc (.cells (fl [[.int .u32 0], bw Z105]) 39 (0, 0))
          replace hL := hide ((unhide hL).gr hg)
          clear hg
          generalize World.alloc _ _ = u3 at *
          generalize wr.heap.size = g8 at *
          simp only [nrm]
          have hzz_ : Hid (u3.heap[g8]? = some (.cells (fl [[.int .u32 0], bw Z105]) 39 (0, 0))) := hide (hB.get 2 (x := ⟨g8, fl [[.int .u32 0], bw Z105], 39⟩) rfl)
          refine list_all 39 (.tmp 8) (.tmp 44) (g8) (S2 := [[.int .u32 s.n], bw Z105]) (by kernel_rfl) rfl (by kernel_rfl) (by kernel_rfl) hB 2 rfl NO (nO Z105_len _) (nO Z105_len _) (by kernel_rfl) (oO _ rfl) ?_
          intro u4 hB_ hbt_
          clear hB
          replace hB : Bl w [⟨w.heap.size, fl [[.int .u32 0], [.slice none 0 0], [.int .i64 0], [.int .u32 0], [.slice none 0 0]], 26⟩, ⟨g4, fl [[.int .u32 nx], [.slice la j lc], [.int .i64 q5], [.int .u32 0], [.slice none 0 0]], 26⟩, ⟨g8, fl [[.int .u32 s.n], bw Z105], 39⟩] u4 := hB_
          clear hB_
          replace hL := hide ((unhide hL).bkP (unhide hzz_) hbt_ hne8)
          clear hbt_ hzz_
          simp only [nrm]
          refine wpList_nil ?_
          replace hB := hide hB
          go_upto_region 13 with fail
          replace hB := unhide hB
          refine any_start (S := fun v_ => True) (by kernel_rfl) ?_
          replace hL := hide ((unhide hL).gr ((Gr.refl u4).drew))
          replace hB := hB.drew
          generalize World.drew _ = u5 at *
          simp only [List.size_toArray, List.length_cons, List.length_nil, Array.replicate, List.replicate]
          refine any_tk 0 (.pointer (some ⟨g8, 1, none⟩)) (tf 6 0) rfl (fun x_ hu => by kernel_rfl) trivial ?_
          simp only [nrm]
          refine any_tk 1 (.slice (some ⟨g8, 1, none⟩) 105 105) (tf 6 1) rfl (fun x_ hu => by kernel_rfl) trivial ?_
          simp only [nrm]
          refine any_tk 2 (.slice (some ⟨p0, o0, none⟩) 590 c) (tf 6 2) rfl (fun x_ hu => by kernel_rfl) trivial ?_
          simp only [nrm]
          refine any_tk 3 (.int .i64 (of6 : Int)) (tf 6 3) rfl (fun x_ hu => by kernel_rfl) trivial ?_
          simp only [nrm]
          refine any_tk 4 (.slice (some ⟨p0, o0 + of6, none⟩) (590 - of6) (c - of6)) (tf 6 4) rfl (fun x_ hu => exec_fb _ (.tmp 47) (.tmp 48) rfl p0 o0 590 c of6 (by kernel_rfl) (by kernel_rfl) hcp (by omega)) trivial ?_
          simp only [nrm]
          refine any_one (i := 5) (by kernel_rfl) rfl (fun K hK => ?_)
          have hat9 : At u5 p0 (o0 + of6) s.B := fun q hq9 => (by
            have h5 := hB.gr.cell (((unhide hat).drop of6) q (by rw [List.length_drop]; have := (unhide hok).2.1; omega))
            have e5 : (L.drop of6).getD q 0 = s.B.getD q 0 := by
              rw [← unhide hsB]
              have := (unhide hok).2.1
              simp [List.getD, List.getElem?_take, show q < 105 by omega]
            rw [e5] at h5
            exact h5)
          rw [if_pos (by kernel_rfl)]
          refine copy_wp (.tmp 46) (.tmp 49) rfl (g8) 1 105 105 (some ⟨p0, o0 + of6, none⟩) (590 - of6) (c - of6) (by kernel_rfl) (by kernel_rfl) (([[Value.int .u32 s.n], bw Z105] : List (List Value)).flatten) 39 (hB.get 2 (x := ⟨g8, fl [[.int .u32 s.n], bw Z105], 39⟩) rfl) s.B (by rw [(unhide hok).2.1]; exact (Nat.min_eq_right (by omega)).symm) (.inr ⟨p0, o0 + of6, rfl, hat9⟩) (by rw [(unhide hok).2.1]; simp [bw_len, Z105_len]) ?_
          clear hat9
          rw [show ((s.B.length : Nat) : Int) = 105 by rw [(unhide hok).2.1]; rfl]
          have hzz_ := hB.get 2 (x := ⟨g8, fl [[.int .u32 s.n], bw Z105], 39⟩) rfl
          replace hL := hide (or_bk (unhide hL) (setCells_bt (s.B.map (Value.int .u8)) u5 (g8) 1) hne8)
          have hB2 := hB.cells 2 (C := ([[Value.int .u32 s.n], bw Z105] : List (List Value)).flatten) rfl 1 (s.B.map (Value.int .u8))
          rw [body_cells (unhide hok).2.1] at hB2
          simp only [List.set_cons_zero, List.set_cons_succ] at hB2
          clear hB hzz_
          generalize World.setCells _ _ _ _ = u6 at *
          have hB := hB2
          clear hB2
          refine hK.out _ _ trivial (fun _ => ?_)
          clear hK K
          simp only [nrm]
          refine any_done (by kernel_rfl) ?_
          replace hB := hide hB
          go_upto_region 14 with fail
          replace hB := unhide hB
          refine wp_region_lit ?_
          refine lvk (.pointer (some ⟨g4, 1, none⟩)) ?_
          simp only [nrm]
          refine list_val (.slice la j lc) (by kernel_rfl) (exec_csO _ (.tmp 51) rfl (g4) 1 (by kernel_rfl) la j lc (seg_cell (nC  _ _ _ _ _) (hB.get 1 (x := ⟨g4, fl [[.int .u32 nx], [.slice la j lc], [.int .i64 q5], [.int .u32 0], [.slice none 0 0]], 26⟩) rfl) 1 (v := .slice la j lc) rfl rfl)) ?_
          simp only [nrm]
          refine list_val (.agg (fl [[.int .u32 s.n], bw s.B])) (by kernel_rfl) (exec_sw _ 39 (.tmp 8) rfl (g8) (by kernel_rfl) (hB.get 2 (x := ⟨g8, fl [[.int .u32 s.n], bw s.B], 39⟩) rfl) NO (nO (unhide hok).2.1 _) Try.underlying39 rfl (by kernel_rfl)) ?_
          simp only [nrm]
          replace hB := Bl.left (L := [⟨w.heap.size, fl [[.int .u32 0], [.slice none 0 0], [.int .i64 0], [.int .u32 0], [.slice none 0 0]], 26⟩, ⟨g4, fl [[.int .u32 nx], [.slice la j lc], [.int .i64 q5], [.int .u32 0], [.slice none 0 0]], 26⟩]) (M := [⟨g8, fl [[.int .u32 s.n], bw s.B], 39⟩]) hB
          refine list_valw (.slice (some ⟨u6.heap.size, 0, none⟩) 1 1) (u6.alloc (.cells (fl [[.int .u32 s.n], bw s.B]) 39 (0, 0))) (by kernel_rfl) (exec_bso _ (.tmp 53) rfl s (unhide hok).2.1 (by kernel_rfl)) ?_
          have hS := hide (blk_new u6 (.cells (fl [[.int .u32 s.n], bw s.B]) 39 (0, 0)))
          have hg := (Gr.refl u6).alloc (.cells (fl [[.int .u32 s.n], bw s.B]) 39 (0, 0))
          replace hL := hide ((unhide hL).gr hg)
          replace hB := hB.more hg
          clear hg
          generalize World.alloc _ _ = u7 at *
          generalize u6.heap.size = gs at *
          simp only [nrm]
          refine wpList_step fun K hK => ?_
          rw [if_pos (by kernel_rfl)]
          refine app_row1P ltO (.tmp 52) (.tmp 54) rfl _ ((O.take j).map otr) (by kernel_rfl) w.heap.size hB.gr.size (unhide hL) gs 0 1 (otr s) (by kernel_rfl) (otr_len (unhide hok)) (range_row (unhide hS)) (otr_one s) (by rw [List.length_map, List.length_take]; omega) ?_
          intro v1 u8 hL1 hgr hwh
          refine hK _ _ ?_
          clear hK K hS hwh
          replace hB := hB.grownR (unhide hL) (Nat.le_refl _) hgr (by intro y_ hy_; simp only [List.mem_cons, List.not_mem_nil, or_false] at hy_; rcases hy_ with rfl | rfl <;> (dsimp only; decide))
          clear hL hgr
          rw [unhide etk] at hL1
          obtain ⟨l8, c8, rfl, hls8⟩ := hL1.lz
          clear hls8
          have e2 : ((O.take (j + 1)).map otr).length = j + 1 := by rw [List.length_map, List.length_take]; omega
          rw [e2] at hL1 ⊢
          have hL := hide hL1
          clear hL1 e2
          simp only [nrm]
          refine lvk (.pointer (some ⟨g4, 1, none⟩)) ?_
          simp only [nrm]
          have hzz_ : Hid (u8.heap[g4]? = some (.cells (fl [[.int .u32 nx], [.slice la j lc], [.int .i64 q5], [.int .u32 0], [.slice none 0 0]]) 26 (0, 0))) := hide (hB.get 1 (x := ⟨g4, fl [[.int .u32 nx], [.slice la j lc], [.int .i64 q5], [.int .u32 0], [.slice none 0 0]], 26⟩) rfl)
          refine list_csO (.tmp 56) (.tmp 55) (g4) 1 l8 (j + 1) c8 (by kernel_rfl) rfl (by kernel_rfl) (by kernel_rfl) hB 1 rfl NC (nC  _ _ _ _ _) 1 _ rfl rfl ?_
          intro u9 hB_ hbt_
          clear hB
          replace hB : Bl w [⟨w.heap.size, fl [[.int .u32 0], [.slice none 0 0], [.int .i64 0], [.int .u32 0], [.slice none 0 0]], 26⟩, ⟨g4, fl [[.int .u32 nx], [.slice l8 (j + 1) c8], [.int .i64 q5], [.int .u32 0], [.slice none 0 0]], 26⟩] u9 := hB_
          clear hB_
          replace hL := hide ((unhide hL).bz (unhide hzz_) hbt_)
          clear hbt_ hzz_
          simp only [nrm]
          refine wpList_nil ?_
          have ek : j + 1 = min (j + 1) n := by omega
          clear hsn hsB hok etk
          rw [ek] at hL hB
          clear ek
          replace hB := hide hB
          go_upto_region 15 with fail
          replace hB := unhide hB
          refine wp_region_lit ?_
          refine lvk (.int .i64 (of6 : Int)) ?_
          simp only [nrm]
          refine list_val (.int .i64 (6 + 105 * ((j + 1 : Nat) : Int))) (by kernel_rfl) (add_i _ (.tmp 57) (.const (.int .i64 105)) (of6 : Int) 105 rfl (by kernel_rfl) rfl _ (unhide hu7) (by omega)) ?_
          simp only [nrm]
          (refine wpList_step fun K hK => ?_; replace hK := hide hK; go_simp; refine unhide hK _ _ ?_; clear hK K)
          refine wpList_nil ?_
          have jw : IntKind.i64.wrap ((j : Int) + 1) = (j : Int) + 1 := by rw [IntKind.wrap_i64]; omega
          replace hB := hide hB
          clear hu6 hu7 hul
          go_wp2_with fail
          go_roundw
          case rel => exact ⟨j + 1, l8, c8, by omega, by simp, by simp, hL, hB⟩
          case measure => simp [intOf]; omega
        · have jn : ¬ (j : Int) < (n : Int) := by omega
          have ek : min j n = min (j + 1) n := by omega
          rw [ek] at hL hB
          clear ek
          replace hu7 := hide hu7
          replace hB := hide hB
          go_upto_region 11 with fail
          replace hB := unhide hB
          refine wp_region_lit ?_
          refine lvk (.int .i64 (j : Int)) ?_
          simp only [nrm]
          refine lvk (.int .i64 (n : Int)) ?_
          simp only [nrm]
          refine list_val (.bool false) (by kernel_rfl) (lss_i _ (.tmp 34) (.tmp 35) (j : Int) (n : Int) false rfl (by kernel_rfl) (by kernel_rfl) (decide_eq_false jn)) ?_
          simp only [nrm]
          refine wpList_nil ?_
          replace hB := hide hB
          go_upto_region 15 with fail
          replace hB := unhide hB
          refine wp_region_lit ?_
          refine lvk (.int .i64 (of6 : Int)) ?_
          simp only [nrm]
          refine list_val (.int .i64 (6 + 105 * ((j + 1 : Nat) : Int))) (by kernel_rfl) (add_i _ (.tmp 57) (.const (.int .i64 105)) (of6 : Int) 105 rfl (by kernel_rfl) rfl _ (unhide hu7) (by omega)) ?_
          simp only [nrm]
          (refine wpList_step fun K hK => ?_; replace hK := hide hK; go_simp; refine unhide hK _ _ ?_; clear hK K)
          refine wpList_nil ?_
          have jw : IntKind.i64.wrap ((j : Int) + 1) = (j : Int) + 1 := by rw [IntKind.wrap_i64]; omega
          replace hB := hide hB
          clear hu6 hu7 hul
          go_wp2_with fail
          go_roundw
          case rel => exact ⟨j + 1, la, lc, by omega, by simp, by simp, hL, hB⟩
          case measure => simp [intOf]; omega
      · have jI : ¬ (j : Int) < 4 := by omega
        obtain rfl : j = 4 := by omega
        rw [show min 4 n = n by omega] at hL hB
        first | rw [show (6 + 105 * ((4 : Nat) : Int)) = 426 from rfl] | skip
        obtain ⟨dl, hdl⟩ : ∃ d, d = lowN ((L.drop 426).take 4) := ⟨_, rfl⟩
        replace hdl := hide hdl
        replace hB := hide hB
        go_upto_region 16 with fail
        replace hB := unhide hB
        refine wp_region_lit ?_
        refine lvk (.slice (some ⟨p0, o0, none⟩) 590 c) ?_
        simp only [nrm]
        refine lvk (.int .i64 426) ?_
        simp only [nrm]
        refine list_val (.slice (some ⟨p0, o0 + 426, none⟩) (590 - 426) (c - 426)) (by kernel_rfl) (exec_fb _ (.tmp 59) (.tmp 60) rfl p0 o0 590 c 426 (by kernel_rfl) (by kernel_rfl) hcp (by omega)) ?_
        simp only [nrm]
        refine list_call 48 #[.slice (some ⟨p0, o0 + 426, none⟩) (590 - 426) (c - 426)] (by kernel_rfl) (by kernel_rfl) (((show Calls Try.prog 48 #[.slice (some ⟨p0, o0 + 426, none⟩) (590 - 426) (c - 426)] wr (Vl (.int .u32 dl) wr) from by have h := rnum_ok (L.drop 426) (some ⟨p0, o0 + 426, none⟩) (590 - 426) (c - 426) (by omega) wr (((unhide lb).drop 426 (by omega)).gr hB.gr); rw [← unhide hdl] at h; exact h)).mono ?_)
        rintro r_ u3 ⟨rfl, hg⟩
        replace hL := hide ((unhide hL).gr hg)
        replace hB := hB.more hg
        clear hg
        refine ⟨_, rfl, ?_⟩
        simp only [nrm]
        refine lvk (.pointer (some ⟨g4, 3, none⟩)) ?_
        simp only [nrm]
        have hzz_ : Hid (u3.heap[g4]? = some (.cells (fl [[.int .u32 nx], [.slice la n lc], [.int .i64 q5], [.int .u32 0], [.slice none 0 0]]) 26 (0, 0))) := hide (hB.get 1 (x := ⟨g4, fl [[.int .u32 nx], [.slice la n lc], [.int .i64 q5], [.int .u32 0], [.slice none 0 0]], 26⟩) rfl)
        refine list_c32 (.tmp 63) (.tmp 62) (g4) 3 dl (by kernel_rfl) rfl (by kernel_rfl) (by kernel_rfl) hB 1 rfl NC (nC  _ _ _ _ _) 3 _ rfl rfl ?_
        intro u4 hB_ hbt_
        clear hB
        replace hB : Bl w [⟨w.heap.size, fl [[.int .u32 0], [.slice none 0 0], [.int .i64 0], [.int .u32 0], [.slice none 0 0]], 26⟩, ⟨g4, fl [[.int .u32 nx], [.slice la n lc], [.int .i64 q5], [.int .u32 dl], [.slice none 0 0]], 26⟩] u4 := hB_
        clear hB_
        replace hL := hide ((unhide hL).bz (unhide hzz_) hbt_)
        clear hbt_ hzz_
        simp only [nrm]
        refine wpList_nil ?_
        replace hB := hide hB
        go_upto_region 17 with fail
        replace hB := unhide hB
        refine wp_region_lit ?_
        refine lvk (.slice (some ⟨p0, o0, none⟩) 590 c) ?_
        simp only [nrm]
        refine lvk (.int .i64 426) ?_
        simp only [nrm]
        refine list_val (.int .i64 430) (by kernel_rfl) (add_i _ (.tmp 65) (.const (.int .i64 4)) 426 4 rfl (by kernel_rfl) rfl _ rfl (by omega)) ?_
        simp only [nrm]
        refine list_val (.pointer (some ⟨p0, o0 + 430, none⟩)) (by kernel_rfl) (exec_ib _ (.tmp 64) (.tmp 66) rfl p0 o0 590 c 430 (by kernel_rfl) (by kernel_rfl) (by omega)) ?_
        simp only [nrm]
        refine list_val (.int .u8 q9) (by kernel_rfl) (exec_b _ (.tmp 67) rfl p0 (o0 + 430) (by kernel_rfl) q9 (hB.gr.cell (unhide c9))) ?_
        simp only [nrm]
        refine list_val (.int .i64 q9) (by kernel_rfl) (conv_8i _ (.tmp 68) q9 rfl (by kernel_rfl) b9) ?_
        simp only [nrm]
        (refine wpList_step fun K hK => ?_; replace hK := hide hK; go_simp; refine unhide hK _ _ ?_; clear hK K)
        refine wpList_nil ?_
        by_cases hq : 3 < q9
        · replace hq := hide hq
          replace hB := hide hB
          go_upto_region 18 with fail
          replace hB := unhide hB
          refine wp_region_lit ?_
          refine lvk (.int .i64 q9) ?_
          simp only [nrm]
          refine list_val (.bool true) (by kernel_rfl) (gtr_i _ (.tmp 70) (.const (.int .i64 3)) q9 3 true rfl (by kernel_rfl) (by kernel_rfl) (decide_eq_true (unhide hq))) ?_
          simp only [nrm]
          refine wpList_nil ?_
          replace hB := hide hB
          go_upto_region 19 with fail
          replace hB := unhide hB
          refine wp_region_lit ?_
          refine list_val (.agg (fl [[.int .u32 0], [.slice none 0 0], [.int .i64 0], [.int .u32 0], [.slice none 0 0]])) (by kernel_rfl) (bC _ rfl) ?_
          simp only [nrm]
          have hzz_ : Hid (u4.heap[w.heap.size]? = some (.cells (fl [[.int .u32 0], [.slice none 0 0], [.int .i64 0], [.int .u32 0], [.slice none 0 0]]) 26 (0, 0))) := hide (hB.get 0 (x := ⟨w.heap.size, fl [[.int .u32 0], [.slice none 0 0], [.int .i64 0], [.int .u32 0], [.slice none 0 0]], 26⟩) rfl)
          refine list_all 26 (.tmp 2) (.tmp 72) (w.heap.size) (S2 := [[.int .u32 0], [.slice none 0 0], [.int .i64 0], [.int .u32 0], [.slice none 0 0]]) (by kernel_rfl) rfl (by kernel_rfl) (by kernel_rfl) hB 0 rfl NC (nC  _ _ _ _ _) (nC  _ _ _ _ _) (by kernel_rfl) (oC  rfl rfl rfl rfl rfl) ?_
          intro u5 hB_ hbt_
          clear hB
          replace hB : Bl w [⟨w.heap.size, fl [[.int .u32 0], [.slice none 0 0], [.int .i64 0], [.int .u32 0], [.slice none 0 0]], 26⟩, ⟨g4, fl [[.int .u32 nx], [.slice la n lc], [.int .i64 q5], [.int .u32 dl], [.slice none 0 0]], 26⟩] u5 := hB_
          clear hB_
          replace hL := hide ((unhide hL).bz (unhide hzz_) hbt_)
          clear hbt_ hzz_
          simp only [nrm]
          (refine wpList_step fun K hK => ?_; replace hK := hide hK; go_simp; refine unhide hK _ _ ?_; clear hK K)
          refine wpList_nil ?_
          replace hB := hide hB
          go_wp2_with fail
          replace hB := unhide hB
          rw [unhide hT]
          rw [show gtM L = (cz, 281) from gt_m hLl (unhide hLB) (by rw [← unhide hq9]; exact unhide hq)]
          exact bodyPost_ret (v := .tuple #[.agg (fl [[.int .u32 0], [.slice none 0 0], [.int .i64 0], [.int .u32 0], [.slice none 0 0]]), .int .i64 281]) (res2 Try.results31 (rv_cell (by kernel_rfl) (hB.get 0 (x := ⟨w.heap.size, fl [[.int .u32 0], [.slice none 0 0], [.int .i64 0], [.int .u32 0], [.slice none 0 0]], 26⟩) rfl) Try.underlying26 rfl (by rw [fl_size (nC  _ _ _ _ _)]; kernel_rfl)) (rv_tmp (by kernel_rfl))) rfl (⟨xz, rfl, cin_z _, owx_z _ _, hB.gr⟩)
        · obtain ⟨m, hmI⟩ : ∃ m : Nat, (m : Int) = q9 := ⟨q9.toNat, by omega⟩
          subst hmI
          have hm3 : m ≤ 3 := by omega
          have hqm : ¬ (3 < (m : Int)) := hq
          replace hqm := hide hqm
          have hrm : rdM L = m := by unfold rdM; rw [← unhide hq9, Int.toNat_natCast]; exact Nat.min_eq_left hm3
          have hrn : rdN L = n := by unfold rdN; rw [← unhide hq4, Int.toNat_natCast]; exact Nat.min_eq_left hn4
          replace hrm := hide hrm; replace hrn := hide hrn
          clear hq
          obtain ⟨H, hH⟩ : ∃ H, H = (List.range m).map fun (i : Nat) => inA L (431 + 53 * i) := ⟨_, rfl⟩
          have hHl : H.length = m := by rw [hH]; simp
          have hHat : ∀ i, i < m → H[i]? = some (inA L (431 + 53 * i)) := fun i hi => by rw [hH, List.getElem?_map, List.getElem?_range hi]; rfl
          replace hH := hide hH; replace hHat := hide hHat
          replace hB := hide hB
          go_upto_region 18 with fail
          replace hB := unhide hB
          refine wp_region_lit ?_
          refine lvk (.int .i64 (m : Int)) ?_
          simp only [nrm]
          refine list_val (.bool false) (by kernel_rfl) (gtr_i _ (.tmp 70) (.const (.int .i64 3)) (m : Int) 3 false rfl (by kernel_rfl) (by kernel_rfl) (decide_eq_false (unhide hqm))) ?_
          simp only [nrm]
          refine wpList_nil ?_
          replace hB := hide hB
          go_upto_region 20 with fail
          replace hB := unhide hB
          refine wp_region_lit ?_
          refine lvk (.int .i64 426) ?_
          simp only [nrm]
          refine list_val (.int .i64 431) (by kernel_rfl) (add_i _ (.tmp 73) (.const (.int .i64 5)) 426 5 rfl (by kernel_rfl) rfl _ rfl (by omega)) ?_
          simp only [nrm]
          (refine wpList_step fun K hK => ?_; replace hK := hide hK; go_simp; refine unhide hK _ _ ?_; clear hK K)
          refine wpList_nil ?_
          replace hB := hide hB
          go_upto_region 21 with fail
          replace hB := unhide hB
          refine wp_region_lit ?_
          (refine wpList_step fun K hK => ?_; replace hK := hide hK; go_simp; refine unhide hK _ _ ?_; clear hK K)
          refine wpList_nil ?_
          have hI := hide (or_none 2 47 w.heap.size u4)
          replace hB := hide hB
          go_wp2_with fail
          go_loopw [6, 10] (fun u i wr => ∃ (j : Nat) (ia : Option Addr) (ic : Nat), j ≤ m ∧ u = .int .i64 (431 + 53 * (j : Int)) ∧ i = .int .i64 (j : Int) ∧ Hid (Or_ 106 39 w.heap.size wr (.slice la n lc) ((O.take n).map otr)) ∧ Hid (Or_ 2 47 w.heap.size wr (.slice ia j ic) ((H.take j).map itr)) ∧ Hid (Bl w [⟨w.heap.size, fl [[.int .u32 0], [.slice none 0 0], [.int .i64 0], [.int .u32 0], [.slice none 0 0]], 26⟩, ⟨g4, fl [[.int .u32 nx], [.slice la n lc], [.int .i64 q5], [.int .u32 dl], [.slice ia j ic]], 26⟩] wr)) (fun _ i _ => m - (intOf i).toNat)
          case atStart => exact ⟨0, none, 0, by omega, by simp, rfl, hL, hI, hB⟩
          case round =>
          clear hB hL hI
          obtain ⟨j, ia, ic, hj, rfl, rfl, hL, hI, hB⟩ := hrel
          have hB := unhide hB
          by_cases hlt : j < m
          · have jI : (j : Int) < (m : Int) := by omega
            obtain ⟨of6, hu6⟩ : ∃ u : Nat, u = 431 + 53 * j := ⟨_, rfl⟩
            have hu8 : 431 + 53 * (j : Int) = (of6 : Int) := by omega
            rw [hu8]
            clear hu8
            have hu7 : (of6 : Int) + 53 = 431 + 53 * ((j + 1 : Nat) : Int) := by omega
            have hul : of6 + 53 ≤ 590 := by omega
            replace hu6 := hide hu6
            obtain ⟨l9, hl9⟩ : ∃ l9, l9 = L.getD (of6 + 4) 0 := ⟨_, rfl⟩
            have bl9 := (unhide hLB).at_ (of6 + 4)
            have cl := (unhide hat) (of6 + 4) (by omega)
            rw [← hl9] at bl9 cl
            replace hu7 := hide hu7; replace cl := hide cl; replace hl9 := hide hl9
            replace hB := hide hB
            go_upto_region 24 with fail
            replace hB := unhide hB
            refine wp_region_lit ?_
            refine lvk (.slice (some ⟨p0, o0, none⟩) 590 c) ?_
            simp only [nrm]
            refine lvk (.int .i64 (of6 : Int)) ?_
            simp only [nrm]
            refine list_val (.int .i64 ((of6 + 4 : Nat) : Int)) (by kernel_rfl) (add_i _ (.tmp 81) (.const (.int .i64 4)) (of6 : Int) 4 rfl (by kernel_rfl) rfl _ (by omega) (by omega)) ?_
            simp only [nrm]
            refine list_val (.pointer (some ⟨p0, o0 + (of6 + 4), none⟩)) (by kernel_rfl) (exec_ib _ (.tmp 80) (.tmp 82) rfl p0 o0 590 c (of6 + 4) (by kernel_rfl) (by kernel_rfl) (by omega)) ?_
            simp only [nrm]
            refine list_val (.int .u8 l9) (by kernel_rfl) (exec_b _ (.tmp 83) rfl p0 (o0 + (of6 + 4)) (by kernel_rfl) l9 (hB.gr.cell (unhide cl))) ?_
            simp only [nrm]
            refine list_val (.int .i64 l9) (by kernel_rfl) (conv_8i _ (.tmp 84) l9 rfl (by kernel_rfl) bl9) ?_
            simp only [nrm]
            (refine wpList_step fun K hK => ?_; replace hK := hide hK; go_simp; refine unhide hK _ _ ?_; clear hK K)
            refine wpList_nil ?_
            by_cases hq : 48 < l9
            · replace hq := hide hq
              replace hB := hide hB
              go_upto_region 25 with fail
              replace hB := unhide hB
              refine wp_region_lit ?_
              refine lvk (.int .i64 l9) ?_
              simp only [nrm]
              refine list_val (.bool true) (by kernel_rfl) (gtr_i _ (.tmp 86) (.const (.int .i64 48)) l9 48 true rfl (by kernel_rfl) (by kernel_rfl) (decide_eq_true (unhide hq))) ?_
              simp only [nrm]
              refine wpList_nil ?_
              replace hB := hide hB
              go_upto_region 26 with fail
              replace hB := unhide hB
              refine wp_region_lit ?_
              refine list_val (.agg (fl [[.int .u32 0], [.slice none 0 0], [.int .i64 0], [.int .u32 0], [.slice none 0 0]])) (by kernel_rfl) (bC _ rfl) ?_
              simp only [nrm]
              have hzz_ : Hid (wr.heap[w.heap.size]? = some (.cells (fl [[.int .u32 0], [.slice none 0 0], [.int .i64 0], [.int .u32 0], [.slice none 0 0]]) 26 (0, 0))) := hide (hB.get 0 (x := ⟨w.heap.size, fl [[.int .u32 0], [.slice none 0 0], [.int .i64 0], [.int .u32 0], [.slice none 0 0]], 26⟩) rfl)
              refine list_all 26 (.tmp 2) (.tmp 88) (w.heap.size) (S2 := [[.int .u32 0], [.slice none 0 0], [.int .i64 0], [.int .u32 0], [.slice none 0 0]]) (by kernel_rfl) rfl (by kernel_rfl) (by kernel_rfl) hB 0 rfl NC (nC  _ _ _ _ _) (nC  _ _ _ _ _) (by kernel_rfl) (oC  rfl rfl rfl rfl rfl) ?_
              intro u5 hB_ hbt_
              clear hB
              replace hB : Bl w [⟨w.heap.size, fl [[.int .u32 0], [.slice none 0 0], [.int .i64 0], [.int .u32 0], [.slice none 0 0]], 26⟩, ⟨g4, fl [[.int .u32 nx], [.slice la n lc], [.int .i64 q5], [.int .u32 dl], [.slice ia j ic]], 26⟩] u5 := hB_
              clear hB_
              replace hL := hide ((unhide hL).bz (unhide hzz_) hbt_)
              replace hI := hide ((unhide hI).bz (unhide hzz_) hbt_)
              clear hbt_ hzz_
              simp only [nrm]
              (refine wpList_step fun K hK => ?_; replace hK := hide hK; go_simp; refine unhide hK _ _ ?_; clear hK K)
              refine wpList_nil ?_
              replace hB := hide hB
              go_wp2_with fail
              replace hB := unhide hB
              rw [unhide hT]
              rw [show gtM L = (cz, 281) from gt_l hLl (unhide hLB) (j := j) (by rw [unhide hrm]; exact hlt) (by rw [← unhide hu6, ← unhide hl9]; exact unhide hq)]
              exact bodyPost_ret (v := .tuple #[.agg (fl [[.int .u32 0], [.slice none 0 0], [.int .i64 0], [.int .u32 0], [.slice none 0 0]]), .int .i64 281]) (res2 Try.results31 (rv_cell (by kernel_rfl) (hB.get 0 (x := ⟨w.heap.size, fl [[.int .u32 0], [.slice none 0 0], [.int .i64 0], [.int .u32 0], [.slice none 0 0]], 26⟩) rfl) Try.underlying26 rfl (by rw [fl_size (nC  _ _ _ _ _)]; kernel_rfl)) (rv_tmp (by kernel_rfl))) rfl (⟨xz, rfl, cin_z _, owx_z _ _, hB.gr⟩)
            · obtain ⟨ln, hlI⟩ : ∃ m : Nat, (m : Int) = l9 := ⟨l9.toNat, by omega⟩
              subst hlI
              have hln : ln ≤ 48 := by omega
              have hql : ¬ (48 < (ln : Int)) := hq
              replace hql := hide hql
              clear hq
              obtain ⟨s, hs⟩ : ∃ s, s = inA L of6 := ⟨_, rfl⟩
              have hsn : lowN ((L.drop of6).take 4) = s.n := by rw [hs]; rfl
              have hst : s.s = strOfNums ((L.drop (of6 + 5)).take ln) := by
                rw [hs]
                show strOfNums (((L.drop (of6 + 5)).take 48).take (min (L.getD (of6 + 4) 0).toNat 48)) = _
                rw [← unhide hl9, Int.toNat_natCast, Nat.min_eq_left hln, List.take_take, Nat.min_eq_left hln]
              have hpl : ((L.drop (of6 + 5)).take ln).length = ln := by rw [List.length_take, List.length_drop]; omega
              have hsl : Sl w (some ⟨p0, o0 + (of6 + 5), none⟩) ((L.drop (of6 + 5)).take ln) := Sl.take (.inr ⟨_, _, rfl, (unhide hat).drop (of6 + 5)⟩) ln
              have hsj := (unhide hHat) j hlt
              rw [← unhide hu6, ← hs] at hsj
              have etk : (H.take j).map itr ++ [itr s] = (H.take (j + 1)).map itr := by rw [List.take_add_one, hsj]; simp
              replace hsn := hide hsn; replace hst := hide hst; replace hsl := hide hsl; replace etk := hide etk
              clear hs hsj
              replace hB := hide hB
              go_upto_region 25 with fail
              replace hB := unhide hB
              refine wp_region_lit ?_
              refine lvk (.int .i64 (ln : Int)) ?_
              simp only [nrm]
              refine list_val (.bool false) (by kernel_rfl) (gtr_i _ (.tmp 86) (.const (.int .i64 48)) (ln : Int) 48 false rfl (by kernel_rfl) (by kernel_rfl) (decide_eq_false (unhide hql))) ?_
              simp only [nrm]
              refine wpList_nil ?_
              replace hB := hide hB
              go_upto_region 27 with fail
              replace hB := unhide hB
              refine anyC_start 19 (fun v_ => v_.heap[g4]? = some (.cells (fl [[.int .u32 nx], [.slice la n lc], [.int .i64 q5], [.int .u32 dl], [.slice ia j ic]]) 26 (0, 0)) ∧ Gr w v_) (by kernel_rfl) ?_
              replace hL := hide ((unhide hL).gr ((Gr.refl wr).drew))
              replace hI := hide ((unhide hI).gr ((Gr.refl wr).drew))
              replace hB := hB.drew
              generalize World.drew _ = u5 at *
              simp only [List.size_toArray, List.length_cons, List.length_nil, Array.replicate, List.replicate]
              refine anyC_take (i := 0) (v := (.pointer (some ⟨g4, 4, none⟩))) (fun v_ => v_.heap[g4]? = some (.cells (fl [[.int .u32 nx], [.slice la n lc], [.int .i64 q5], [.int .u32 dl], [.slice ia j ic]]) 26 (0, 0)) ∧ Gr w v_) (fun _ h_ => h_) (.inr (by kernel_rfl)) rfl (by kernel_rfl) (by kernel_rfl) (by kernel_rfl) (by decide) (by kernel_rfl) (by decide) (fun _ _ _ h => h) (.inl ⟨by kernel_rfl, fun x_ hu => by kernel_rfl⟩) ⟨hB.get 1 (x := ⟨g4, fl [[.int .u32 nx], [.slice la n lc], [.int .i64 q5], [.int .u32 dl], [.slice ia j ic]], 26⟩) rfl, hB.gr⟩ ?_
              simp only [nrm]
              refine anyC_take (i := 1) (v := (.slice ia j ic)) (fun v_ => v_.heap[g4]? = some (.cells (fl [[.int .u32 nx], [.slice la n lc], [.int .i64 q5], [.int .u32 dl], [.slice ia j ic]]) 26 (0, 0)) ∧ Gr w v_) (fun _ h_ => h_) (.inr (by kernel_rfl)) rfl (by kernel_rfl) (by kernel_rfl) (by kernel_rfl) (by decide) (by kernel_rfl) (by decide) (fun _ _ _ h => h) (.inl ⟨by kernel_rfl, fun x_ hu => exec_csI _ (.tmp 89) rfl (g4) 4 (by kernel_rfl) ia j ic (seg_cell (nC  _ _ _ _ _) hu.1 4 (v := .slice ia j ic) rfl rfl)⟩) ⟨hB.get 1 (x := ⟨g4, fl [[.int .u32 nx], [.slice la n lc], [.int .i64 q5], [.int .u32 dl], [.slice ia j ic]], 26⟩) rfl, hB.gr⟩ ?_
              simp only [nrm]
              refine anyC_take (i := 2) (v := (.slice (some ⟨p0, o0, none⟩) 590 c)) (fun v_ => v_.heap[g4]? = some (.cells (fl [[.int .u32 nx], [.slice la n lc], [.int .i64 q5], [.int .u32 dl], [.slice ia j ic]]) 26 (0, 0)) ∧ Gr w v_) (fun _ h_ => h_) (.inr (by kernel_rfl)) rfl (by kernel_rfl) (by kernel_rfl) (by kernel_rfl) (by decide) (by kernel_rfl) (by decide) (fun _ _ _ h => h) (.inl ⟨by kernel_rfl, fun x_ hu => by kernel_rfl⟩) ⟨hB.get 1 (x := ⟨g4, fl [[.int .u32 nx], [.slice la n lc], [.int .i64 q5], [.int .u32 dl], [.slice ia j ic]], 26⟩) rfl, hB.gr⟩ ?_
              simp only [nrm]
              refine anyC_take (i := 3) (v := (.int .i64 (of6 : Int))) (fun v_ => v_.heap[g4]? = some (.cells (fl [[.int .u32 nx], [.slice la n lc], [.int .i64 q5], [.int .u32 dl], [.slice ia j ic]]) 26 (0, 0)) ∧ Gr w v_) (fun _ h_ => h_) (.inr (by kernel_rfl)) rfl (by kernel_rfl) (by kernel_rfl) (by kernel_rfl) (by decide) (by kernel_rfl) (by decide) (fun _ _ _ h => h) (.inl ⟨by kernel_rfl, fun x_ hu => by kernel_rfl⟩) ⟨hB.get 1 (x := ⟨g4, fl [[.int .u32 nx], [.slice la n lc], [.int .i64 q5], [.int .u32 dl], [.slice ia j ic]], 26⟩) rfl, hB.gr⟩ ?_
              simp only [nrm]
              refine anyC_take (i := 4) (v := (.slice (some ⟨p0, o0 + of6, none⟩) (590 - of6) (c - of6))) (fun v_ => v_.heap[g4]? = some (.cells (fl [[.int .u32 nx], [.slice la n lc], [.int .i64 q5], [.int .u32 dl], [.slice ia j ic]]) 26 (0, 0)) ∧ Gr w v_) (fun _ h_ => h_) (.inr (by kernel_rfl)) rfl (by kernel_rfl) (by kernel_rfl) (by kernel_rfl) (by decide) (by kernel_rfl) (by decide) (fun _ _ _ h => h) (.inl ⟨by kernel_rfl, fun x_ hu => exec_fb _ (.tmp 91) (.tmp 92) rfl p0 o0 590 c of6 (by kernel_rfl) (by kernel_rfl) hcp (by omega)⟩) ⟨hB.get 1 (x := ⟨g4, fl [[.int .u32 nx], [.slice la n lc], [.int .i64 q5], [.int .u32 dl], [.slice ia j ic]], 26⟩) rfl, hB.gr⟩ ?_
              simp only [nrm]
              refine anyC_take (i := 6) (v := (.slice (some ⟨p0, o0, none⟩) 590 c)) (fun v_ => v_.heap[g4]? = some (.cells (fl [[.int .u32 nx], [.slice la n lc], [.int .i64 q5], [.int .u32 dl], [.slice ia j ic]]) 26 (0, 0)) ∧ Gr w v_) (fun _ h_ => h_) (.inr (by kernel_rfl)) rfl (by kernel_rfl) (by kernel_rfl) (by kernel_rfl) (by decide) (by kernel_rfl) (by decide) (fun _ _ _ h => h) (.inl ⟨by kernel_rfl, fun x_ hu => by kernel_rfl⟩) ⟨hB.get 1 (x := ⟨g4, fl [[.int .u32 nx], [.slice la n lc], [.int .i64 q5], [.int .u32 dl], [.slice ia j ic]], 26⟩) rfl, hB.gr⟩ ?_
              simp only [nrm]
              refine anyC_take (i := 7) (v := (.int .i64 (of6 : Int))) (fun v_ => v_.heap[g4]? = some (.cells (fl [[.int .u32 nx], [.slice la n lc], [.int .i64 q5], [.int .u32 dl], [.slice ia j ic]]) 26 (0, 0)) ∧ Gr w v_) (fun _ h_ => h_) (.inr (by kernel_rfl)) rfl (by kernel_rfl) (by kernel_rfl) (by kernel_rfl) (by decide) (by kernel_rfl) (by decide) (fun _ _ _ h => h) (.inl ⟨by kernel_rfl, fun x_ hu => by kernel_rfl⟩) ⟨hB.get 1 (x := ⟨g4, fl [[.int .u32 nx], [.slice la n lc], [.int .i64 q5], [.int .u32 dl], [.slice ia j ic]], 26⟩) rfl, hB.gr⟩ ?_
              simp only [nrm]
              refine anyC_take (i := 8) (v := (.int .i64 ((of6 + 5 : Nat) : Int))) (fun v_ => v_.heap[g4]? = some (.cells (fl [[.int .u32 nx], [.slice la n lc], [.int .i64 q5], [.int .u32 dl], [.slice ia j ic]]) 26 (0, 0)) ∧ Gr w v_) (fun _ h_ => h_) (.inr (by kernel_rfl)) rfl (by kernel_rfl) (by kernel_rfl) (by kernel_rfl) (by decide) (by kernel_rfl) (by decide) (fun _ _ _ h => h) (.inl ⟨by kernel_rfl, fun x_ hu => add_i _ (.tmp 96) (.const (.int .i64 5)) (of6 : Int) 5 rfl (by kernel_rfl) rfl _ (by omega) (by omega)⟩) ⟨hB.get 1 (x := ⟨g4, fl [[.int .u32 nx], [.slice la n lc], [.int .i64 q5], [.int .u32 dl], [.slice ia j ic]], 26⟩) rfl, hB.gr⟩ ?_
              simp only [nrm]
              refine anyC_take (i := 9) (v := (.int .i64 (of6 : Int))) (fun v_ => v_.heap[g4]? = some (.cells (fl [[.int .u32 nx], [.slice la n lc], [.int .i64 q5], [.int .u32 dl], [.slice ia j ic]]) 26 (0, 0)) ∧ Gr w v_) (fun _ h_ => h_) (.inr (by kernel_rfl)) rfl (by kernel_rfl) (by kernel_rfl) (by kernel_rfl) (by decide) (by kernel_rfl) (by decide) (fun _ _ _ h => h) (.inl ⟨by kernel_rfl, fun x_ hu => by kernel_rfl⟩) ⟨hB.get 1 (x := ⟨g4, fl [[.int .u32 nx], [.slice la n lc], [.int .i64 q5], [.int .u32 dl], [.slice ia j ic]], 26⟩) rfl, hB.gr⟩ ?_
              simp only [nrm]
              refine anyC_take (i := 10) (v := (.int .i64 ((of6 + 5 : Nat) : Int))) (fun v_ => v_.heap[g4]? = some (.cells (fl [[.int .u32 nx], [.slice la n lc], [.int .i64 q5], [.int .u32 dl], [.slice ia j ic]]) 26 (0, 0)) ∧ Gr w v_) (fun _ h_ => h_) (.inr (by kernel_rfl)) rfl (by kernel_rfl) (by kernel_rfl) (by kernel_rfl) (by decide) (by kernel_rfl) (by decide) (fun _ _ _ h => h) (.inl ⟨by kernel_rfl, fun x_ hu => add_i _ (.tmp 98) (.const (.int .i64 5)) (of6 : Int) 5 rfl (by kernel_rfl) rfl _ (by omega) (by omega)⟩) ⟨hB.get 1 (x := ⟨g4, fl [[.int .u32 nx], [.slice la n lc], [.int .i64 q5], [.int .u32 dl], [.slice ia j ic]], 26⟩) rfl, hB.gr⟩ ?_
              simp only [nrm]
              refine anyC_take (i := 11) (v := (.int .i64 (ln : Int))) (fun v_ => v_.heap[g4]? = some (.cells (fl [[.int .u32 nx], [.slice la n lc], [.int .i64 q5], [.int .u32 dl], [.slice ia j ic]]) 26 (0, 0)) ∧ Gr w v_) (fun _ h_ => h_) (.inr (by kernel_rfl)) rfl (by kernel_rfl) (by kernel_rfl) (by kernel_rfl) (by decide) (by kernel_rfl) (by decide) (fun _ _ _ h => h) (.inl ⟨by kernel_rfl, fun x_ hu => by kernel_rfl⟩) ⟨hB.get 1 (x := ⟨g4, fl [[.int .u32 nx], [.slice la n lc], [.int .i64 q5], [.int .u32 dl], [.slice ia j ic]], 26⟩) rfl, hB.gr⟩ ?_
              simp only [nrm]
              refine anyC_take (i := 12) (v := (.int .i64 ((of6 + 5 + ln : Nat) : Int))) (fun v_ => v_.heap[g4]? = some (.cells (fl [[.int .u32 nx], [.slice la n lc], [.int .i64 q5], [.int .u32 dl], [.slice ia j ic]]) 26 (0, 0)) ∧ Gr w v_) (fun _ h_ => h_) (.inr (by kernel_rfl)) rfl (by kernel_rfl) (by kernel_rfl) (by kernel_rfl) (by decide) (by kernel_rfl) (by decide) (fun _ _ _ h => h) (.inl ⟨by kernel_rfl, fun x_ hu => add_i _ (.tmp 99) (.tmp 100) ((of6 + 5 : Nat) : Int) (ln : Int) rfl (by kernel_rfl) (by kernel_rfl) _ (by omega) (by omega)⟩) ⟨hB.get 1 (x := ⟨g4, fl [[.int .u32 nx], [.slice la n lc], [.int .i64 q5], [.int .u32 dl], [.slice ia j ic]], 26⟩) rfl, hB.gr⟩ ?_
              simp only [nrm]
              refine anyC_take (i := 13) (v := (.slice (some ⟨p0, o0 + (of6 + 5), none⟩) ln (c - (of6 + 5)))) (fun v_ => v_.heap[g4]? = some (.cells (fl [[.int .u32 nx], [.slice la n lc], [.int .i64 q5], [.int .u32 dl], [.slice ia j ic]]) 26 (0, 0)) ∧ Gr w v_) (fun _ h_ => h_) (.inr (by kernel_rfl)) rfl (by kernel_rfl) (by kernel_rfl) (by kernel_rfl) (by decide) (by kernel_rfl) (by decide) (fun _ _ _ h => h) (.inl ⟨by kernel_rfl, fun x_ hu => exec_lhb _ (.tmp 95) (.tmp 97) (.tmp 101) rfl p0 o0 590 c (of6 + 5) (of6 + 5 + ln) ln (by kernel_rfl) (by kernel_rfl) (by kernel_rfl) (by omega) (by omega) (by omega) (by omega)⟩) ⟨hB.get 1 (x := ⟨g4, fl [[.int .u32 nx], [.slice la n lc], [.int .i64 q5], [.int .u32 dl], [.slice ia j ic]], 26⟩) rfl, hB.gr⟩ ?_
              simp only [nrm]
              refine anyC_take (i := 14) (v := (.string s.s)) (fun v_ => v_.heap[g4]? = some (.cells (fl [[.int .u32 nx], [.slice la n lc], [.int .i64 q5], [.int .u32 dl], [.slice ia j ic]]) 26 (0, 0)) ∧ Gr w v_) (fun _ h_ => h_) (.inr (by kernel_rfl)) rfl (by kernel_rfl) (by kernel_rfl) (by kernel_rfl) (by decide) (by kernel_rfl) (by decide) (fun _ _ _ h => h) (.inl ⟨by kernel_rfl, fun x_ hu => exec_tx _ (.tmp 102) rfl (some ⟨p0, o0 + (of6 + 5), none⟩) ln (c - (of6 + 5)) _ (by kernel_rfl) hpl ((unhide hsl).gr hu.2) _ (unhide hst)⟩) ⟨hB.get 1 (x := ⟨g4, fl [[.int .u32 nx], [.slice la n lc], [.int .i64 q5], [.int .u32 dl], [.slice ia j ic]], 26⟩) rfl, hB.gr⟩ ?_
              simp only [nrm]
              refine anyC_one (i := 5) (by kernel_rfl) rfl (fun K hK => ?_)
              refine step_callw (by kernel_rfl) 48 #[.slice (some ⟨p0, o0 + of6, none⟩) (590 - of6) (c - of6)] (by kernel_rfl) (((show Calls Try.prog 48 #[.slice (some ⟨p0, o0 + of6, none⟩) (590 - of6) (c - of6)] u5 (Vl (.int .u32 s.n) u5) from by have h := rnum_ok (L.drop of6) (some ⟨p0, o0 + of6, none⟩) (590 - of6) (c - of6) (by omega) u5 (((unhide lb).drop of6 (by omega)).gr hB.gr); rw [unhide hsn] at h; exact h)).mono ?_)
              rintro r u6 ⟨rfl, hg⟩
              refine ⟨_, rfl, ?_⟩
              replace hL := hide ((unhide hL).gr hg)
              replace hI := hide ((unhide hI).gr hg)
              replace hB := hB.more hg
              clear hg
              refine hK.out _ _ ⟨hB.get 1 (x := ⟨g4, fl [[.int .u32 nx], [.slice la n lc], [.int .i64 q5], [.int .u32 dl], [.slice ia j ic]], 26⟩) rfl, hB.gr⟩ (fun _ => ?_)
              clear hK K
              simp only [nrm]
              refine anyC_take (i := 15) (v := (.agg (fl [[.int .u32 s.n], [.string s.s]]))) (fun v_ => v_.heap[g4]? = some (.cells (fl [[.int .u32 nx], [.slice la n lc], [.int .i64 q5], [.int .u32 dl], [.slice ia j ic]]) 26 (0, 0)) ∧ Gr w v_) (fun _ h_ => h_) (.inr (by kernel_rfl)) rfl (by kernel_rfl) (by kernel_rfl) (by kernel_rfl) (by decide) (by kernel_rfl) (by decide) (fun _ _ _ h => h) (.inl ⟨by kernel_rfl, fun x_ hu => bI01 _ (.tmp 94) (.tmp 103) rfl (by kernel_rfl) (by kernel_rfl)⟩) ⟨hB.get 1 (x := ⟨g4, fl [[.int .u32 nx], [.slice la n lc], [.int .i64 q5], [.int .u32 dl], [.slice ia j ic]], 26⟩) rfl, hB.gr⟩ ?_
              simp only [nrm]
              refine anyC_one (i := 16) (by kernel_rfl) rfl (fun K hK => ?_)
              refine step_val (.slice (some ⟨u6.heap.size, 0, none⟩) 1 1) (u6.alloc (.cells (fl [[.int .u32 s.n], [.string s.s]]) 47 (0, 0))) (by kernel_rfl) (exec_bsi _ (.tmp 104) rfl s (by kernel_rfl)) ?_
              have hS := hide (blk_new u6 (.cells (fl [[.int .u32 s.n], [.string s.s]]) 47 (0, 0)))
              have hg := (Gr.refl u6).alloc (.cells (fl [[.int .u32 s.n], [.string s.s]]) 47 (0, 0))
              replace hL := hide ((unhide hL).gr hg)
              replace hI := hide ((unhide hI).gr hg)
              replace hB := hB.more hg
              clear hg
              generalize World.alloc _ _ = u7 at *
              generalize u6.heap.size = gs at *
              refine hK.out _ _ ⟨hB.get 1 (x := ⟨g4, fl [[.int .u32 nx], [.slice la n lc], [.int .i64 q5], [.int .u32 dl], [.slice ia j ic]], 26⟩) rfl, hB.gr⟩ (fun _ => ?_)
              clear hK K
              simp only [nrm]
              refine anyC_one (i := 17) (by kernel_rfl) rfl (fun K hK => ?_)
              rw [if_pos (by kernel_rfl)]
              refine app_row1P ltI (.tmp 90) (.tmp 105) rfl _ ((H.take j).map itr) (by kernel_rfl) w.heap.size hB.gr.size (unhide hI) gs 0 1 (itr s) (by kernel_rfl) rfl (range_row (unhide hS)) (itr_one s) (by rw [List.length_map, List.length_take]; omega) ?_
              intro v1 u8 hL1 hgr hwh
              replace hB := hB.grownR (unhide hI) (Nat.le_refl _) hgr (by intro y_ hy_; simp only [List.mem_cons, List.not_mem_nil, or_false] at hy_; rcases hy_ with rfl | rfl <;> (dsimp only; decide))
              replace hL := hide (or_grown (unhide hL) (unhide hI) hgr (by decide))
              clear hI hgr hwh hS
              rw [unhide etk] at hL1
              obtain ⟨l8, c8, rfl, hls8⟩ := hL1.lz
              clear hls8
              have e2 : ((H.take (j + 1)).map itr).length = j + 1 := by rw [List.length_map, List.length_take]; omega
              rw [e2] at hL1 ⊢
              have hI := hide hL1
              clear hL1 e2
              refine hK.out _ _ ⟨hB.get 1 (x := ⟨g4, fl [[.int .u32 nx], [.slice la n lc], [.int .i64 q5], [.int .u32 dl], [.slice ia j ic]], 26⟩) rfl, hB.gr⟩ (fun _ => ?_)
              clear hK K
              simp only [nrm]
              refine anyC_take (i := 18) (v := (.pointer (some ⟨g4, 4, none⟩))) (fun v_ => v_.heap[g4]? = some (.cells (fl [[.int .u32 nx], [.slice la n lc], [.int .i64 q5], [.int .u32 dl], [.slice ia j ic]]) 26 (0, 0)) ∧ Gr w v_) (fun _ h_ => h_) (.inr (by kernel_rfl)) rfl (by kernel_rfl) (by kernel_rfl) (by kernel_rfl) (by decide) (by kernel_rfl) (by decide) (fun _ _ _ h => h) (.inl ⟨by kernel_rfl, fun x_ hu => by kernel_rfl⟩) ⟨hB.get 1 (x := ⟨g4, fl [[.int .u32 nx], [.slice la n lc], [.int .i64 q5], [.int .u32 dl], [.slice ia j ic]], 26⟩) rfl, hB.gr⟩ ?_
              simp only [nrm]
              refine anyC_last (by kernel_rfl) rfl (fun K hK => ?_)
              have hzz_ : Hid (u8.heap[g4]? = some (.cells (fl [[.int .u32 nx], [.slice la n lc], [.int .i64 q5], [.int .u32 dl], [.slice ia j ic]]) 26 (0, 0))) := hide (hB.get 1 (x := ⟨g4, fl [[.int .u32 nx], [.slice la n lc], [.int .i64 q5], [.int .u32 dl], [.slice ia j ic]], 26⟩) rfl)
              refine step_csI (.tmp 107) (.tmp 106) (g4) 4 l8 (j + 1) c8 (by kernel_rfl) rfl (by kernel_rfl) (by kernel_rfl) hB 1 rfl NC (nC  _ _ _ _ _) 4 _ rfl rfl ?_
              intro u9 hB_ hbt_
              clear hB
              replace hB : Bl w [⟨w.heap.size, fl [[.int .u32 0], [.slice none 0 0], [.int .i64 0], [.int .u32 0], [.slice none 0 0]], 26⟩, ⟨g4, fl [[.int .u32 nx], [.slice la n lc], [.int .i64 q5], [.int .u32 dl], [.slice l8 (j + 1) c8]], 26⟩] u9 := hB_
              clear hB_
              replace hL := hide ((unhide hL).bz (unhide hzz_) hbt_)
              replace hI := hide ((unhide hI).bz (unhide hzz_) hbt_)
              clear hbt_ hzz_
              refine hK.out _ _ ?_
              clear hK K
              simp only [nrm]
              refine any_done (by kernel_rfl) ?_
              replace hB := hide hB
              go_upto_region 28 with fail
              replace hB := unhide hB
              refine wp_region_lit ?_
              refine lvk (.int .i64 (of6 : Int)) ?_
              simp only [nrm]
              refine list_val (.int .i64 (431 + 53 * ((j + 1 : Nat) : Int))) (by kernel_rfl) (add_i _ (.tmp 108) (.const (.int .i64 53)) (of6 : Int) 53 rfl (by kernel_rfl) rfl _ (unhide hu7) (by omega)) ?_
              simp only [nrm]
              (refine wpList_step fun K hK => ?_; replace hK := hide hK; go_simp; refine unhide hK _ _ ?_; clear hK K)
              refine wpList_nil ?_
              have jw : IntKind.i64.wrap ((j : Int) + 1) = (j : Int) + 1 := by rw [IntKind.wrap_i64]; omega
              replace hB := hide hB
              clear hu6 hu7 hul cl hl9 hql hsn hst hpl hsl etk
              go_wp2_with fail
              go_roundw
              case rel => exact ⟨j + 1, l8, c8, by omega, by simp, by simp, hL, hI, hB⟩
              case measure => simp [intOf]; omega
          · have jI : ¬ (j : Int) < (m : Int) := by omega
            have hjm : j = m := by omega
            rw [hjm] at hI hB
            clear hjm
            rw [List.take_of_length_le (Nat.le_of_eq hHl)] at hI
            have hCr : rdC L = ⟨nx, O.take n, q5, dl, H⟩ := by
              unfold rdC
              rw [unhide hrn, unhide hrm, ← unhide hnx, ← unhide hq5, ← unhide hdl, ← unhide hO, ← unhide hH]
            obtain ⟨e, he⟩ : ∃ e : Cm, e = ⟨nx, O.take n, q5, dl, H⟩ := ⟨_, rfl⟩
            have hnm := rdC_nums hLl (unhide hLB)
            have hee : rdC L = e := hCr.trans he.symm
            rw [hee] at hnm
            obtain ⟨x1, hx1⟩ : ∃ x1 : Lc, x1 = ⟨la, n, lc, ia, m, ic⟩ := ⟨_, rfl⟩
            have hOw : Own w.heap.size wr ⟨nx, O.take n, q5, dl, H⟩ ⟨la, n, lc, ia, m, ic⟩ := ⟨unhide hL, unhide hI⟩
            rw [← he, ← hx1] at hOw
            have hC1 := hide (show Co w.heap.size wr e x1 from ⟨hOw.cin hnm, hOw.owx⟩)
            clear hOw
            have f1 : nx = e.nx := by rw [he]
            have f2 : q5 = e.tn := by rw [he]
            have f3 : dl = e.dl := by rw [he]
            have f4 : la = x1.ao ∧ n = x1.no ∧ lc = x1.co ∧ ia = x1.ah ∧ m = x1.nh ∧ ic = x1.ch := by rw [hx1]; exact ⟨rfl, rfl, rfl, rfl, rfl, rfl⟩
            clear hCr
            replace hB : Bl w [⟨w.heap.size, fl [[.int .u32 0], [.slice none 0 0], [.int .i64 0], [.int .u32 0], [.slice none 0 0]], 26⟩, ⟨g4, fl [[.int .u32 e.nx], [.slice x1.ao x1.no x1.co], [.int .i64 e.tn], [.int .u32 e.dl], [.slice x1.ah x1.nh x1.ch]], 26⟩] wr := by rw [← f1, ← f2, ← f3, ← f4.1, ← f4.2.1, ← f4.2.2.1, ← f4.2.2.2.1, ← f4.2.2.2.2.1, ← f4.2.2.2.2.2]; exact hB
            replace hee := hide hee; replace hnm := hide hnm
            clear f1 f2 f3 f4 hx1 he hL hI
            cases h2 : rt e with
            | false =>
              replace h2 := hide h2
              replace hB := hide hB
              go_upto_region 29 with fail
              replace hB := unhide hB
              refine any_start (S := fun v_ => v_.heap[g4]? = some (.cells (fl [[.int .u32 e.nx], [.slice x1.ao x1.no x1.co], [.int .i64 e.tn], [.int .u32 e.dl], [.slice x1.ah x1.nh x1.ch]]) 26 (0, 0))) (by kernel_rfl) ?_
              replace hC1 := hide ((unhide hC1).gr ((Gr.refl wr).drew))
              replace hB := hB.drew
              generalize World.drew _ = u10 at *
              simp only [List.size_toArray, List.length_cons, List.length_nil, Array.replicate, List.replicate]
              have hS_ := hide (show (fun v_ => v_.heap[g4]? = some (.cells (fl [[.int .u32 e.nx], [.slice x1.ao x1.no x1.co], [.int .i64 e.tn], [.int .u32 e.dl], [.slice x1.ah x1.nh x1.ch]]) 26 (0, 0))) u10 from (hB.get 1 (x := ⟨g4, fl [[.int .u32 e.nx], [.slice x1.ao x1.no x1.co], [.int .i64 e.tn], [.int .u32 e.dl], [.slice x1.ah x1.nh x1.ch]], 26⟩) rfl))
              refine any_tk 0 (.agg (fl [[.int .u32 e.nx], [.slice x1.ao x1.no x1.co], [.int .i64 e.tn], [.int .u32 e.dl], [.slice x1.ah x1.nh x1.ch]])) (tf 11 0) rfl (fun x_ hu => exec_sw _ 26 (.tmp 4) rfl (g4) (by kernel_rfl) hu NC (nC  _ _ _ _ _) Try.underlying26 rfl (by kernel_rfl)) (unhide hS_) ?_
              simp only [nrm]
              refine any_one (i := 1) (by kernel_rfl) rfl (fun K hK => ?_)
              refine step_callw (by kernel_rfl) 13 #[.agg (fl [[.int .u32 e.nx], [.slice x1.ao x1.no x1.co], [.int .i64 e.tn], [.int .u32 e.dl], [.slice x1.ah x1.nh x1.ch]])] (by kernel_rfl) (((show Calls Try.prog 13 #[.agg (fl [[.int .u32 e.nx], [.slice x1.ao x1.no x1.co], [.int .i64 e.tn], [.int .u32 e.dl], [.slice x1.ah x1.nh x1.ch]])] u10 (Vl (.bool false) u10) from unhide h2 ▸ right_ok e x1 u10 (unhide hC1).i)).mono ?_)
              rintro r_ u11 ⟨rfl, hg⟩
              replace hC1 := hide ((unhide hC1).gr hg)
              replace hB := hB.more hg
              clear hg
              refine ⟨_, rfl, ?_⟩
              clear hS_
              have hS_ := hide (show (fun v_ => v_.heap[g4]? = some (.cells (fl [[.int .u32 e.nx], [.slice x1.ao x1.no x1.co], [.int .i64 e.tn], [.int .u32 e.dl], [.slice x1.ah x1.nh x1.ch]]) 26 (0, 0))) u11 from (hB.get 1 (x := ⟨g4, fl [[.int .u32 e.nx], [.slice x1.ao x1.no x1.co], [.int .i64 e.tn], [.int .u32 e.dl], [.slice x1.ah x1.nh x1.ch]], 26⟩) rfl))
              refine hK.out _ _ (unhide hS_) (fun _ => ?_)
              clear hK K
              simp only [nrm]
              refine any_tk 2 (.bool true) (tf 11 2) rfl (fun x_ hu => by kernel_rfl) (unhide hS_) ?_
              simp only [nrm]
              refine any_tk 3 (.bool true) (tf 11 3) rfl (fun x_ hu => by kernel_rfl) (unhide hS_) ?_
              simp only [nrm]
              refine any_to 4 (tf 11 4) rfl (unhide hS_) ?_
              simp only [nrm]
              refine any_to 5 (tf 11 5) rfl (unhide hS_) ?_
              simp only [nrm]
              refine any_to 6 (tf 11 6) rfl (unhide hS_) ?_
              simp only [nrm]
              refine any_to 7 (tf 11 7) rfl (unhide hS_) ?_
              simp only [nrm]
              refine any_to 8 (tf 11 8) rfl (unhide hS_) ?_
              simp only [nrm]
              refine any_to 9 (tf 11 9) rfl (unhide hS_) ?_
              simp only [nrm]
              refine any_tk 10 (.bool true) (tf 11 10) rfl (fun x_ hu => by kernel_rfl) (unhide hS_) ?_
              simp only [nrm]
              refine any_done (by kernel_rfl) ?_
              clear hS_
              replace hB := hide hB
              go_upto_region 30 with fail
              replace hB := unhide hB
              refine wp_region_lit ?_
              refine list_val (.agg (fl [[.int .u32 0], [.slice none 0 0], [.int .i64 0], [.int .u32 0], [.slice none 0 0]])) (by kernel_rfl) (bC _ rfl) ?_
              simp only [nrm]
              have hzz_ : Hid (u11.heap[w.heap.size]? = some (.cells (fl [[.int .u32 0], [.slice none 0 0], [.int .i64 0], [.int .u32 0], [.slice none 0 0]]) 26 (0, 0))) := hide (hB.get 0 (x := ⟨w.heap.size, fl [[.int .u32 0], [.slice none 0 0], [.int .i64 0], [.int .u32 0], [.slice none 0 0]], 26⟩) rfl)
              refine list_all 26 (.tmp 2) (.tmp 121) (w.heap.size) (S2 := [[.int .u32 0], [.slice none 0 0], [.int .i64 0], [.int .u32 0], [.slice none 0 0]]) (by kernel_rfl) rfl (by kernel_rfl) (by kernel_rfl) hB 0 rfl NC (nC  _ _ _ _ _) (nC  _ _ _ _ _) (by kernel_rfl) (oC  rfl rfl rfl rfl rfl) ?_
              intro u12 hB_ hbt_
              clear hB
              replace hB : Bl w [⟨w.heap.size, fl [[.int .u32 0], [.slice none 0 0], [.int .i64 0], [.int .u32 0], [.slice none 0 0]], 26⟩, ⟨g4, fl [[.int .u32 e.nx], [.slice x1.ao x1.no x1.co], [.int .i64 e.tn], [.int .u32 e.dl], [.slice x1.ah x1.nh x1.ch]], 26⟩] u12 := hB_
              clear hB_
              replace hC1 := hide ((unhide hC1).bz (unhide hzz_) hbt_)
              clear hbt_ hzz_
              simp only [nrm]
              (refine wpList_step fun K hK => ?_; replace hK := hide hK; go_simp; refine unhide hK _ _ ?_; clear hK K)
              refine wpList_nil ?_
              replace hB := hide hB
              go_wp2_with fail
              replace hB := unhide hB
              rw [unhide hT]
              rw [show gtM L = (cz, 281) from gt_bad hLl (by rw [unhide hee]; intro h9; rw [unhide h2] at h9; exact absurd h9.1 (by decide))]
              exact bodyPost_ret (v := .tuple #[.agg (fl [[.int .u32 0], [.slice none 0 0], [.int .i64 0], [.int .u32 0], [.slice none 0 0]]), .int .i64 281]) (res2 Try.results31 (rv_cell (by kernel_rfl) (hB.get 0 (x := ⟨w.heap.size, fl [[.int .u32 0], [.slice none 0 0], [.int .i64 0], [.int .u32 0], [.slice none 0 0]], 26⟩) rfl) Try.underlying26 rfl (by rw [fl_size (nC  _ _ _ _ _)]; kernel_rfl)) (rv_tmp (by kernel_rfl))) rfl (⟨xz, rfl, cin_z _, owx_z _ _, hB.gr⟩)
            | true =>
              have hPl := putL_len h2 (unhide hnm).O
              have hPB := putL_isB h2 (unhide hnm).O
              obtain ⟨P, hP⟩ : ∃ P, P = putL e := ⟨_, rfl⟩
              rw [← hP] at hPl hPB
              replace hP := hide hP; replace h2 := hide h2; replace hPB := hide hPB
              by_cases h3 : P = L
              · replace h3 := hide h3
                replace hB := hide hB
                go_upto_region 29 with fail
                replace hB := unhide hB
                refine any_start (S := fun v_ => v_.heap[g4]? = some (.cells (fl [[.int .u32 e.nx], [.slice x1.ao x1.no x1.co], [.int .i64 e.tn], [.int .u32 e.dl], [.slice x1.ah x1.nh x1.ch]]) 26 (0, 0)) ∧ Gr w v_) (by kernel_rfl) ?_
                replace hC1 := hide ((unhide hC1).gr ((Gr.refl wr).drew))
                replace hB := hB.drew
                generalize World.drew _ = u10 at *
                simp only [List.size_toArray, List.length_cons, List.length_nil, Array.replicate, List.replicate]
                have hS_ := hide (show (fun v_ => v_.heap[g4]? = some (.cells (fl [[.int .u32 e.nx], [.slice x1.ao x1.no x1.co], [.int .i64 e.tn], [.int .u32 e.dl], [.slice x1.ah x1.nh x1.ch]]) 26 (0, 0)) ∧ Gr w v_) u10 from ⟨(hB.get 1 (x := ⟨g4, fl [[.int .u32 e.nx], [.slice x1.ao x1.no x1.co], [.int .i64 e.tn], [.int .u32 e.dl], [.slice x1.ah x1.nh x1.ch]], 26⟩) rfl), hB.gr⟩)
                refine any_tk 0 (.agg (fl [[.int .u32 e.nx], [.slice x1.ao x1.no x1.co], [.int .i64 e.tn], [.int .u32 e.dl], [.slice x1.ah x1.nh x1.ch]])) (tf 11 0) rfl (fun x_ hu => exec_sw _ 26 (.tmp 4) rfl (g4) (by kernel_rfl) hu.1 NC (nC  _ _ _ _ _) Try.underlying26 rfl (by kernel_rfl)) (unhide hS_) ?_
                simp only [nrm]
                refine any_one (i := 1) (by kernel_rfl) rfl (fun K hK => ?_)
                refine step_callw (by kernel_rfl) 13 #[.agg (fl [[.int .u32 e.nx], [.slice x1.ao x1.no x1.co], [.int .i64 e.tn], [.int .u32 e.dl], [.slice x1.ah x1.nh x1.ch]])] (by kernel_rfl) (((show Calls Try.prog 13 #[.agg (fl [[.int .u32 e.nx], [.slice x1.ao x1.no x1.co], [.int .i64 e.tn], [.int .u32 e.dl], [.slice x1.ah x1.nh x1.ch]])] u10 (Vl (.bool true) u10) from unhide h2 ▸ right_ok e x1 u10 (unhide hC1).i)).mono ?_)
                rintro r_ u11 ⟨rfl, hg⟩
                replace hC1 := hide ((unhide hC1).gr hg)
                replace hB := hB.more hg
                clear hg
                refine ⟨_, rfl, ?_⟩
                clear hS_
                have hS_ := hide (show (fun v_ => v_.heap[g4]? = some (.cells (fl [[.int .u32 e.nx], [.slice x1.ao x1.no x1.co], [.int .i64 e.tn], [.int .u32 e.dl], [.slice x1.ah x1.nh x1.ch]]) 26 (0, 0)) ∧ Gr w v_) u11 from ⟨(hB.get 1 (x := ⟨g4, fl [[.int .u32 e.nx], [.slice x1.ao x1.no x1.co], [.int .i64 e.tn], [.int .u32 e.dl], [.slice x1.ah x1.nh x1.ch]], 26⟩) rfl), hB.gr⟩)
                refine hK.out _ _ (unhide hS_) (fun _ => ?_)
                clear hK K
                simp only [nrm]
                refine any_tk 2 (.bool false) (tf 11 2) rfl (fun x_ hu => by kernel_rfl) (unhide hS_) ?_
                simp only [nrm]
                refine any_tk 3 (.bool false) (tf 11 3) rfl (fun x_ hu => by kernel_rfl) (unhide hS_) ?_
                simp only [nrm]
                refine any_tk 4 (.agg (fl [[.int .u32 e.nx], [.slice x1.ao x1.no x1.co], [.int .i64 e.tn], [.int .u32 e.dl], [.slice x1.ah x1.nh x1.ch]])) (tf 11 4) rfl (fun x_ hu => exec_sw _ 26 (.tmp 4) rfl (g4) (by kernel_rfl) hu.1 NC (nC  _ _ _ _ _) Try.underlying26 rfl (by kernel_rfl)) (unhide hS_) ?_
                simp only [nrm]
                refine any_tk 7 (.slice (some ⟨p0, o0, none⟩) 590 c) (tf 11 5) rfl (fun x_ hu => by kernel_rfl) (unhide hS_) ?_
                simp only [nrm]
                refine any_tk 8 (.string (strOfNums L)) #[true, true, true, true, true, false, false, true, false, false, false] rfl (fun x_ hu => exec_tx _ (.tmp 117) rfl (some ⟨p0, o0, none⟩) 590 c L (by kernel_rfl) hLl ((unhide lb).sl.gr hu.2) _ rfl) (unhide hS_) ?_
                simp only [nrm]
                refine any_one (i := 5) (by kernel_rfl) rfl (fun K hK => ?_)
                refine step_callw (by kernel_rfl) 29 #[.agg (fl [[.int .u32 e.nx], [.slice x1.ao x1.no x1.co], [.int .i64 e.tn], [.int .u32 e.dl], [.slice x1.ah x1.nh x1.ch]])] (by kernel_rfl) (((show Calls Try.prog 29 #[.agg (fl [[.int .u32 e.nx], [.slice x1.ao x1.no x1.co], [.int .i64 e.tn], [.int .u32 e.dl], [.slice x1.ah x1.nh x1.ch]])] u11 (fun r w' => ∃ a' c', r = .returned (.slice a' 590 c') ∧ Ob w.heap.size w' (.slice a' 590 c') P ∧ Gr u11 w') from (rput_ok e x1 u11 (unhide hC1).i (unhide h2)).mono fun r w' h9 => (by obtain ⟨v, q1, q2, q3⟩ := h9; rw [← unhide hP] at q2; obtain ⟨a', c', q4, -⟩ := ob_lb q2 (unhide hPB) hPl; subst q4; exact ⟨a', c', q1, ob_base q2 hB.gr.size, q3⟩))).mono ?_)
                rintro r_ u12 ⟨a9, c9_, rfl, hO9, hg⟩
                replace hC1 := hide ((unhide hC1).gr hg)
                replace hB := hB.more hg
                clear hg
                have hS9 := hide ((ob_lb2 hO9 (unhide hPB) hPl).sl)
                replace hO9 := hide hO9
                refine ⟨_, rfl, ?_⟩
                clear hS_
                have hS_ := hide (show (fun v_ => v_.heap[g4]? = some (.cells (fl [[.int .u32 e.nx], [.slice x1.ao x1.no x1.co], [.int .i64 e.tn], [.int .u32 e.dl], [.slice x1.ah x1.nh x1.ch]]) 26 (0, 0)) ∧ Gr w v_) u12 from ⟨(hB.get 1 (x := ⟨g4, fl [[.int .u32 e.nx], [.slice x1.ao x1.no x1.co], [.int .i64 e.tn], [.int .u32 e.dl], [.slice x1.ah x1.nh x1.ch]], 26⟩) rfl), hB.gr⟩)
                refine hK.out _ _ (unhide hS_) (fun _ => ?_)
                clear hK K
                simp only [nrm]
                refine any_one (i := 6) (by kernel_rfl) rfl (fun K hK => ?_)
                refine step_val (.string (strOfNums P)) u12 (by kernel_rfl) (exec_tx _ (.tmp 115) rfl a9 590 c9_ P (by kernel_rfl) hPl (unhide hS9) _ rfl) ?_
                refine hK.out _ _ (unhide hS_) (fun _ => ?_)
                clear hK K
                simp only [nrm]
                refine any_tk 9 (.bool false) (tf 11 9) rfl (fun x_ hu => exec_neT _ (.tmp 116) (.tmp 118) rfl (strOfNums P) (strOfNums L) (by kernel_rfl) (by kernel_rfl) true (decide_eq_true (by rw [unhide h3]))) (unhide hS_) ?_
                simp only [nrm]
                refine any_tk 10 (.bool false) (tf 11 10) rfl (fun x_ hu => by kernel_rfl) (unhide hS_) ?_
                simp only [nrm]
                refine any_done (by kernel_rfl) ?_
                clear hS_
                replace hB := hide hB
                go_upto_region 31 with fail
                replace hB := unhide hB
                refine wp_region_lit ?_
                refine list_val (.agg (fl [[.int .u32 e.nx], [.slice x1.ao x1.no x1.co], [.int .i64 e.tn], [.int .u32 e.dl], [.slice x1.ah x1.nh x1.ch]])) (by kernel_rfl) (exec_sw _ 26 (.tmp 4) rfl (g4) (by kernel_rfl) (hB.get 1 (x := ⟨g4, fl [[.int .u32 e.nx], [.slice x1.ao x1.no x1.co], [.int .i64 e.tn], [.int .u32 e.dl], [.slice x1.ah x1.nh x1.ch]], 26⟩) rfl) NC (nC  _ _ _ _ _) Try.underlying26 rfl (by kernel_rfl)) ?_
                simp only [nrm]
                have hzz_ : Hid (u12.heap[w.heap.size]? = some (.cells (fl [[.int .u32 0], [.slice none 0 0], [.int .i64 0], [.int .u32 0], [.slice none 0 0]]) 26 (0, 0))) := hide (hB.get 0 (x := ⟨w.heap.size, fl [[.int .u32 0], [.slice none 0 0], [.int .i64 0], [.int .u32 0], [.slice none 0 0]], 26⟩) rfl)
                refine list_all 26 (.tmp 2) (.tmp 122) (w.heap.size) (S2 := [[.int .u32 e.nx], [.slice x1.ao x1.no x1.co], [.int .i64 e.tn], [.int .u32 e.dl], [.slice x1.ah x1.nh x1.ch]]) (by kernel_rfl) rfl (by kernel_rfl) (by kernel_rfl) hB 0 rfl NC (nC  _ _ _ _ _) (nC  _ _ _ _ _) (by kernel_rfl) (oC  rfl rfl rfl rfl rfl) ?_
                intro u13 hB_ hbt_
                clear hB
                replace hB : Bl w [⟨w.heap.size, fl [[.int .u32 e.nx], [.slice x1.ao x1.no x1.co], [.int .i64 e.tn], [.int .u32 e.dl], [.slice x1.ah x1.nh x1.ch]], 26⟩, ⟨g4, fl [[.int .u32 e.nx], [.slice x1.ao x1.no x1.co], [.int .i64 e.tn], [.int .u32 e.dl], [.slice x1.ah x1.nh x1.ch]], 26⟩] u13 := hB_
                clear hB_
                replace hC1 := hide ((unhide hC1).bz (unhide hzz_) hbt_)
                replace hO9 := hide ((unhide hO9).bz (unhide hzz_) hbt_)
                clear hbt_ hzz_
                simp only [nrm]
                (refine wpList_step fun K hK => ?_; replace hK := hide hK; go_simp; refine unhide hK _ _ ?_; clear hK K)
                refine wpList_nil ?_
                replace hB := hide hB
                go_wp2_with fail
                replace hB := unhide hB
                rw [unhide hT]
                rw [show gtM L = (e, 0) from by unfold gtM; rw [if_pos hLl, if_pos (by rw [unhide hee]; exact ⟨unhide h2, (unhide hP).symm.trans (unhide h3)⟩), unhide hee]]
                exact bodyPost_ret (v := .tuple #[.agg (fl [[.int .u32 e.nx], [.slice x1.ao x1.no x1.co], [.int .i64 e.tn], [.int .u32 e.dl], [.slice x1.ah x1.nh x1.ch]]), .int .i64 0]) (res2 Try.results31 (rv_cell (by kernel_rfl) (hB.get 0 (x := ⟨w.heap.size, fl [[.int .u32 e.nx], [.slice x1.ao x1.no x1.co], [.int .i64 e.tn], [.int .u32 e.dl], [.slice x1.ah x1.nh x1.ch]], 26⟩) rfl) Try.underlying26 rfl (by rw [fl_size (nC  _ _ _ _ _)]; kernel_rfl)) (rv_tmp (by kernel_rfl))) rfl (⟨x1, rfl, (unhide hC1).i, (unhide hC1).o, hB.gr⟩)
              · replace h3 := hide h3
                replace hB := hide hB
                go_upto_region 29 with fail
                replace hB := unhide hB
                refine any_start (S := fun v_ => v_.heap[g4]? = some (.cells (fl [[.int .u32 e.nx], [.slice x1.ao x1.no x1.co], [.int .i64 e.tn], [.int .u32 e.dl], [.slice x1.ah x1.nh x1.ch]]) 26 (0, 0)) ∧ Gr w v_) (by kernel_rfl) ?_
                replace hC1 := hide ((unhide hC1).gr ((Gr.refl wr).drew))
                replace hB := hB.drew
                generalize World.drew _ = u10 at *
                simp only [List.size_toArray, List.length_cons, List.length_nil, Array.replicate, List.replicate]
                have hS_ := hide (show (fun v_ => v_.heap[g4]? = some (.cells (fl [[.int .u32 e.nx], [.slice x1.ao x1.no x1.co], [.int .i64 e.tn], [.int .u32 e.dl], [.slice x1.ah x1.nh x1.ch]]) 26 (0, 0)) ∧ Gr w v_) u10 from ⟨(hB.get 1 (x := ⟨g4, fl [[.int .u32 e.nx], [.slice x1.ao x1.no x1.co], [.int .i64 e.tn], [.int .u32 e.dl], [.slice x1.ah x1.nh x1.ch]], 26⟩) rfl), hB.gr⟩)
                refine any_tk 0 (.agg (fl [[.int .u32 e.nx], [.slice x1.ao x1.no x1.co], [.int .i64 e.tn], [.int .u32 e.dl], [.slice x1.ah x1.nh x1.ch]])) (tf 11 0) rfl (fun x_ hu => exec_sw _ 26 (.tmp 4) rfl (g4) (by kernel_rfl) hu.1 NC (nC  _ _ _ _ _) Try.underlying26 rfl (by kernel_rfl)) (unhide hS_) ?_
                simp only [nrm]
                refine any_one (i := 1) (by kernel_rfl) rfl (fun K hK => ?_)
                refine step_callw (by kernel_rfl) 13 #[.agg (fl [[.int .u32 e.nx], [.slice x1.ao x1.no x1.co], [.int .i64 e.tn], [.int .u32 e.dl], [.slice x1.ah x1.nh x1.ch]])] (by kernel_rfl) (((show Calls Try.prog 13 #[.agg (fl [[.int .u32 e.nx], [.slice x1.ao x1.no x1.co], [.int .i64 e.tn], [.int .u32 e.dl], [.slice x1.ah x1.nh x1.ch]])] u10 (Vl (.bool true) u10) from unhide h2 ▸ right_ok e x1 u10 (unhide hC1).i)).mono ?_)
                rintro r_ u11 ⟨rfl, hg⟩
                replace hC1 := hide ((unhide hC1).gr hg)
                replace hB := hB.more hg
                clear hg
                refine ⟨_, rfl, ?_⟩
                clear hS_
                have hS_ := hide (show (fun v_ => v_.heap[g4]? = some (.cells (fl [[.int .u32 e.nx], [.slice x1.ao x1.no x1.co], [.int .i64 e.tn], [.int .u32 e.dl], [.slice x1.ah x1.nh x1.ch]]) 26 (0, 0)) ∧ Gr w v_) u11 from ⟨(hB.get 1 (x := ⟨g4, fl [[.int .u32 e.nx], [.slice x1.ao x1.no x1.co], [.int .i64 e.tn], [.int .u32 e.dl], [.slice x1.ah x1.nh x1.ch]], 26⟩) rfl), hB.gr⟩)
                refine hK.out _ _ (unhide hS_) (fun _ => ?_)
                clear hK K
                simp only [nrm]
                refine any_tk 2 (.bool false) (tf 11 2) rfl (fun x_ hu => by kernel_rfl) (unhide hS_) ?_
                simp only [nrm]
                refine any_tk 3 (.bool false) (tf 11 3) rfl (fun x_ hu => by kernel_rfl) (unhide hS_) ?_
                simp only [nrm]
                refine any_tk 4 (.agg (fl [[.int .u32 e.nx], [.slice x1.ao x1.no x1.co], [.int .i64 e.tn], [.int .u32 e.dl], [.slice x1.ah x1.nh x1.ch]])) (tf 11 4) rfl (fun x_ hu => exec_sw _ 26 (.tmp 4) rfl (g4) (by kernel_rfl) hu.1 NC (nC  _ _ _ _ _) Try.underlying26 rfl (by kernel_rfl)) (unhide hS_) ?_
                simp only [nrm]
                refine any_tk 7 (.slice (some ⟨p0, o0, none⟩) 590 c) (tf 11 5) rfl (fun x_ hu => by kernel_rfl) (unhide hS_) ?_
                simp only [nrm]
                refine any_tk 8 (.string (strOfNums L)) #[true, true, true, true, true, false, false, true, false, false, false] rfl (fun x_ hu => exec_tx _ (.tmp 117) rfl (some ⟨p0, o0, none⟩) 590 c L (by kernel_rfl) hLl ((unhide lb).sl.gr hu.2) _ rfl) (unhide hS_) ?_
                simp only [nrm]
                refine any_one (i := 5) (by kernel_rfl) rfl (fun K hK => ?_)
                refine step_callw (by kernel_rfl) 29 #[.agg (fl [[.int .u32 e.nx], [.slice x1.ao x1.no x1.co], [.int .i64 e.tn], [.int .u32 e.dl], [.slice x1.ah x1.nh x1.ch]])] (by kernel_rfl) (((show Calls Try.prog 29 #[.agg (fl [[.int .u32 e.nx], [.slice x1.ao x1.no x1.co], [.int .i64 e.tn], [.int .u32 e.dl], [.slice x1.ah x1.nh x1.ch]])] u11 (fun r w' => ∃ a' c', r = .returned (.slice a' 590 c') ∧ Ob w.heap.size w' (.slice a' 590 c') P ∧ Gr u11 w') from (rput_ok e x1 u11 (unhide hC1).i (unhide h2)).mono fun r w' h9 => (by obtain ⟨v, q1, q2, q3⟩ := h9; rw [← unhide hP] at q2; obtain ⟨a', c', q4, -⟩ := ob_lb q2 (unhide hPB) hPl; subst q4; exact ⟨a', c', q1, ob_base q2 hB.gr.size, q3⟩))).mono ?_)
                rintro r_ u12 ⟨a9, c9_, rfl, hO9, hg⟩
                replace hC1 := hide ((unhide hC1).gr hg)
                replace hB := hB.more hg
                clear hg
                have hS9 := hide ((ob_lb2 hO9 (unhide hPB) hPl).sl)
                replace hO9 := hide hO9
                refine ⟨_, rfl, ?_⟩
                clear hS_
                have hS_ := hide (show (fun v_ => v_.heap[g4]? = some (.cells (fl [[.int .u32 e.nx], [.slice x1.ao x1.no x1.co], [.int .i64 e.tn], [.int .u32 e.dl], [.slice x1.ah x1.nh x1.ch]]) 26 (0, 0)) ∧ Gr w v_) u12 from ⟨(hB.get 1 (x := ⟨g4, fl [[.int .u32 e.nx], [.slice x1.ao x1.no x1.co], [.int .i64 e.tn], [.int .u32 e.dl], [.slice x1.ah x1.nh x1.ch]], 26⟩) rfl), hB.gr⟩)
                refine hK.out _ _ (unhide hS_) (fun _ => ?_)
                clear hK K
                simp only [nrm]
                refine any_one (i := 6) (by kernel_rfl) rfl (fun K hK => ?_)
                refine step_val (.string (strOfNums P)) u12 (by kernel_rfl) (exec_tx _ (.tmp 115) rfl a9 590 c9_ P (by kernel_rfl) hPl (unhide hS9) _ rfl) ?_
                refine hK.out _ _ (unhide hS_) (fun _ => ?_)
                clear hK K
                simp only [nrm]
                refine any_tk 9 (.bool true) (tf 11 9) rfl (fun x_ hu => exec_neT _ (.tmp 116) (.tmp 118) rfl (strOfNums P) (strOfNums L) (by kernel_rfl) (by kernel_rfl) false (decide_eq_false (fun h => (unhide h3) (str_inj (unhide hPB) (unhide hLB) h)))) (unhide hS_) ?_
                simp only [nrm]
                refine any_tk 10 (.bool true) (tf 11 10) rfl (fun x_ hu => by kernel_rfl) (unhide hS_) ?_
                simp only [nrm]
                refine any_done (by kernel_rfl) ?_
                clear hS_
                replace hB := hide hB
                go_upto_region 30 with fail
                replace hB := unhide hB
                refine wp_region_lit ?_
                refine list_val (.agg (fl [[.int .u32 0], [.slice none 0 0], [.int .i64 0], [.int .u32 0], [.slice none 0 0]])) (by kernel_rfl) (bC _ rfl) ?_
                simp only [nrm]
                have hzz_ : Hid (u12.heap[w.heap.size]? = some (.cells (fl [[.int .u32 0], [.slice none 0 0], [.int .i64 0], [.int .u32 0], [.slice none 0 0]]) 26 (0, 0))) := hide (hB.get 0 (x := ⟨w.heap.size, fl [[.int .u32 0], [.slice none 0 0], [.int .i64 0], [.int .u32 0], [.slice none 0 0]], 26⟩) rfl)
                refine list_all 26 (.tmp 2) (.tmp 121) (w.heap.size) (S2 := [[.int .u32 0], [.slice none 0 0], [.int .i64 0], [.int .u32 0], [.slice none 0 0]]) (by kernel_rfl) rfl (by kernel_rfl) (by kernel_rfl) hB 0 rfl NC (nC  _ _ _ _ _) (nC  _ _ _ _ _) (by kernel_rfl) (oC  rfl rfl rfl rfl rfl) ?_
                intro u13 hB_ hbt_
                clear hB
                replace hB : Bl w [⟨w.heap.size, fl [[.int .u32 0], [.slice none 0 0], [.int .i64 0], [.int .u32 0], [.slice none 0 0]], 26⟩, ⟨g4, fl [[.int .u32 e.nx], [.slice x1.ao x1.no x1.co], [.int .i64 e.tn], [.int .u32 e.dl], [.slice x1.ah x1.nh x1.ch]], 26⟩] u13 := hB_
                clear hB_
                replace hC1 := hide ((unhide hC1).bz (unhide hzz_) hbt_)
                replace hO9 := hide ((unhide hO9).bz (unhide hzz_) hbt_)
                clear hbt_ hzz_
                simp only [nrm]
                (refine wpList_step fun K hK => ?_; replace hK := hide hK; go_simp; refine unhide hK _ _ ?_; clear hK K)
                refine wpList_nil ?_
                replace hB := hide hB
                go_wp2_with fail
                replace hB := unhide hB
                rw [unhide hT]
                rw [show gtM L = (cz, 281) from gt_bad hLl (by rw [unhide hee]; intro h9; exact (unhide h3) ((unhide hP).trans h9.2))]
                exact bodyPost_ret (v := .tuple #[.agg (fl [[.int .u32 0], [.slice none 0 0], [.int .i64 0], [.int .u32 0], [.slice none 0 0]]), .int .i64 281]) (res2 Try.results31 (rv_cell (by kernel_rfl) (hB.get 0 (x := ⟨w.heap.size, fl [[.int .u32 0], [.slice none 0 0], [.int .i64 0], [.int .u32 0], [.slice none 0 0]], 26⟩) rfl) Try.underlying26 rfl (by rw [fl_size (nC  _ _ _ _ _)]; kernel_rfl)) (rv_tmp (by kernel_rfl))) rfl (⟨xz, rfl, cin_z _, owx_z _ _, hB.gr⟩)
  · have hne : (n : Int) ≠ 590 := by omega
    replace h1 := hide h1; replace hne := hide hne
    refine wp_region_lit ?_
    refine lvk (.slice a n c) ?_
    simp only [nrm]
    refine lvk (.int .i64 (n : Int)) ?_
    simp only [nrm]
    refine list_val (.bool true) (by kernel_rfl) (neq_i _ (.tmp 13) (.const (.int .i64 590)) (n : Int) 590 true rfl (by kernel_rfl) (by kernel_rfl) (decide_eq_true (unhide hne))) ?_
    simp only [nrm]
    refine wpList_nil ?_
    replace hB := hide hB
    go_upto_region 2 with fail
    replace hB := unhide hB
    refine wp_region_lit ?_
    refine list_val (.agg (fl [[.int .u32 0], [.slice none 0 0], [.int .i64 0], [.int .u32 0], [.slice none 0 0]])) (by kernel_rfl) (bC _ rfl) ?_
    simp only [nrm]
    refine list_all 26 (.tmp 2) (.tmp 15) (w.heap.size) (S2 := [[.int .u32 0], [.slice none 0 0], [.int .i64 0], [.int .u32 0], [.slice none 0 0]]) (by kernel_rfl) rfl (by kernel_rfl) (by kernel_rfl) hB 0 rfl NC (nC  _ _ _ _ _) (nC  _ _ _ _ _) (by kernel_rfl) (oC  rfl rfl rfl rfl rfl) ?_
    intro u1 hB_ hbt_
    clear hB
    replace hB : Bl w [⟨w.heap.size, fl [[.int .u32 0], [.slice none 0 0], [.int .i64 0], [.int .u32 0], [.slice none 0 0]], 26⟩] u1 := hB_
    clear hB_
    clear hbt_
    simp only [nrm]
    (refine wpList_step fun K hK => ?_; replace hK := hide hK; go_simp; refine unhide hK _ _ ?_; clear hK K)
    refine wpList_nil ?_
    replace hB := hide hB
    go_wp2_with fail
    replace hB := unhide hB
    rw [unhide hT]
    rw [show gtM L = (cz, 240) from by unfold gtM; rw [if_neg (by rw [hLl]; exact unhide h1)]]
    exact bodyPost_ret (v := .tuple #[.agg (fl [[.int .u32 0], [.slice none 0 0], [.int .i64 0], [.int .u32 0], [.slice none 0 0]]), .int .i64 240]) (res2 Try.results31 (rv_cell (by kernel_rfl) (hB.get 0 (x := ⟨w.heap.size, fl [[.int .u32 0], [.slice none 0 0], [.int .i64 0], [.int .u32 0], [.slice none 0 0]], 26⟩) rfl) Try.underlying26 rfl (by rw [fl_size (nC  _ _ _ _ _)]; kernel_rfl)) (rv_tmp (by kernel_rfl))) rfl (⟨xz, rfl, cin_z _, owx_z _ _, hB.gr⟩)
end Go.Proofs.Ytcefkkoombmndaa
