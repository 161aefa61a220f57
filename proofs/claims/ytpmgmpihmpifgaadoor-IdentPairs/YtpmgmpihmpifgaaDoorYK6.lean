/-
  Of layer 16: what the proof leans on.
-/
import Derived.Laws.IdiomStrings
import Derived.Great.BuildSlice
import Derived.Test.YtpmgmpihmpifgaaDoorYK5
namespace Go.Proofs.YtpmgmpihmpifgaaDoor
open Go.RowKit
set_option maxRecDepth 100000
set_option linter.unusedSimpArgs false
set_option linter.unusedVariables false
def Mk (s : Nat) (u : World) (q : Value) : Prop := ∃ g, q = .slice (some ⟨g, 0, none⟩) 64 64 ∧ u.heap[g]? = some (.cells (kc Z6) 5 (0, 0)) ∧ s ≤ g
def Mk2 (s gi : Nat) (u : World) (q : Value) : Prop := ∃ g, q = .slice (some ⟨g, 0, none⟩) 64 64 ∧ u.heap[g]? = some (.cells (kc Z6) 5 (0, 0)) ∧ s ≤ g ∧ g ≠ gi
def YK (f : Nat → Int) : Nat → List Int
  | 0 => Z6
  | n + 1 => (YK f n).set n (f n)
theorem YK_len (f : Nat → Int) : ∀ n, (YK f n).length = 64
  | 0 => rfl
  | n + 1 => by rw [YK, List.length_set, YK_len f n]
theorem YK_get (f : Nat → Int) (j : Nat) : ∀ n, n ≤ 64 → j < n → (YK f n).getD j 0 = f j
  | 0, _, h => by omega
  | n + 1, h, hj => by
    rw [YK, getD_set _ _ _ _ (by rw [YK_len]; omega)]
    by_cases e : j = n
    · rw [if_pos e, e]
    · rw [if_neg e]
      exact YK_get f j n (by omega) (by omega)
def kxf (B : List Int) (x : Int) (i : Nat) : Int := kxb ((k6 B).getD i 0) x
theorem YK_all (B : List Int) (x : Int) : YK (kxf B x) 64 = padK B x := by
  apply List.ext_getElem (by rw [YK_len, padK_len])
  intro i h1 h2
  have hi : i < 64 := by rw [padK_len] at h2; exact h2
  have h3 := YK_get (kxf B x) i 64 (Nat.le_refl _) hi
  rw [List.getD_eq_getElem?_getD, List.getElem?_eq_getElem h1] at h3
  simp only [Option.getD_some] at h3
  rw [h3]
  unfold padK kxf
  simp
theorem kc5_lb {w : World} {g : Nat} {D : List Int} (h : w.heap[g]? = some (.cells (kc D) 5 (0, 0))) (hl : D.length = 64) (hb : IsB D) : Lb w (some ⟨g, 0, none⟩) 64 64 D := ⟨hl, hb, .inr ⟨g, 0, rfl, kc_at h⟩, Nat.le_refl _, by omega⟩
theorem k6_isB {B : List Int} (h : IsB B) : IsB (k6 B) := by
  unfold k6
  split
  · exact sumL_isB _
  · exact h
set_option maxHeartbeats 4000000 in
theorem rhmac_ok (B X : List Int) (a b : Option Addr) (n c m d : Nat) (hnb : n ≤ 1000000) (hmb : m ≤ 1000000) (w : World) (hA : Lb w a n c B) (hX : Lb w b m d X) : Calls Tryd.prog 92 #[.slice a n c, .slice b m d] w (Coded B X w) := by
  obtain ⟨T, hT⟩ : ∃ T, T = Coded B X w := ⟨_, rfl⟩
  rw [← hT]
  have la := hide hA.len
  replace hT := hide hT
  replace hA := hide hA
  replace hX := hide hX
  by_cases hl64 : 64 < n
  · have lI : 64 < (n : Int) := by omega
    go_enter Tryd.func92, Tryd.ntmps92
    go_upto_region 3 with fail
    have hB := (Bl.nil w).new #[.int .u8 0, .int .u8 0, .int .u8 0, .int .u8 0, .int .u8 0, .int .u8 0, .int .u8 0, .int .u8 0, .int .u8 0, .int .u8 0, .int .u8 0, .int .u8 0, .int .u8 0, .int .u8 0, .int .u8 0, .int .u8 0, .int .u8 0, .int .u8 0, .int .u8 0, .int .u8 0, .int .u8 0, .int .u8 0, .int .u8 0, .int .u8 0, .int .u8 0, .int .u8 0, .int .u8 0, .int .u8 0, .int .u8 0, .int .u8 0, .int .u8 0, .int .u8 0] 25
    simp only [List.nil_append] at hB
    generalize World.alloc _ _ = u1 at *
    replace hB : Bl w [⟨w.heap.size, kc Z32, 25⟩] u1 := hB
    refine wp_region_lit ?_
    replace hB := hide hB
    iterate 1 (refine wpList_step fun K hK => ?_; replace hK := hide hK; go_simp; refine unhide hK _ _ ?_; clear hK K)
    replace hB := unhide hB
    have lA := (unhide hA).gr hB.gr
    refine list_call 33 #[.slice a n c] (by kernel_rfl) (by kernel_rfl) ((rsum_ok B lA.isB n lA.len (by omega) a c _ lA.sl).mono ?_)
    rintro r u2 ⟨rfl, hg⟩
    refine ⟨_, rfl, ?_⟩
    replace hB := hB.more hg
    clear hg lA
    simp only [nrm]
    have hk6 : Hid (k6 B = sumL B) := by unfold k6; rw [if_pos (by rw [unhide la]; exact hl64)]; exact rfl
    obtain ⟨S, hS⟩ : ∃ M, M = sumL B := ⟨_, rfl⟩
    have hSl : S.length = 32 := by rw [hS]; exact sumL_len B
    rw [← hS] at hk6
    rw [← hS]
    clear hS
    replace hB := hide hB
    iterate 1 (refine wpList_step fun K hK => ?_; replace hK := hide hK; go_simp; refine unhide hK _ _ ?_; clear hK K)
    have hL := (Bl.nil u2).new #[.int .u8 0, .int .u8 0, .int .u8 0, .int .u8 0, .int .u8 0, .int .u8 0, .int .u8 0, .int .u8 0, .int .u8 0, .int .u8 0, .int .u8 0, .int .u8 0, .int .u8 0, .int .u8 0, .int .u8 0, .int .u8 0, .int .u8 0, .int .u8 0, .int .u8 0, .int .u8 0, .int .u8 0, .int .u8 0, .int .u8 0, .int .u8 0, .int .u8 0, .int .u8 0, .int .u8 0, .int .u8 0, .int .u8 0, .int .u8 0, .int .u8 0, .int .u8 0] 25
    simp only [List.nil_append] at hL
    generalize World.alloc _ _ = u3 at *
    replace hL : Bl u2 [⟨u2.heap.size, kc Z32, 25⟩] u3 := hL
    refine list_store 25 (.tmp 6) (.tmp 17) u2.heap.size (kc S) 25 (kc Z32) (by kernel_rfl) rfl (by kernel_rfl) (by kernel_rfl) (hL.get 0 (x := ⟨u2.heap.size, kc Z32, 25⟩) rfl) (by rw [Tryd.infoKey, kc_size, hSl]) ((show (kc Z32).size = 32 from rfl).trans ((kc_size _).trans hSl).symm) (kc_one _) ?_
    replace hL := hL.set 0 (x := ⟨u2.heap.size, kc Z32, 25⟩) rfl (kc S)
    simp only [List.set_cons_zero, List.set_cons_succ] at hL
    generalize World.setRow _ _ _ = u4 at *
    simp only [nrm]
    refine wpList_nil ?_
    replace hB := (unhide hB).more hL.gr
    have lk : Lb u4 (some ⟨u2.heap.size, 0, none⟩) 32 32 (k6 B) := by
      rw [unhide hk6]
      exact ⟨hSl, (by rw [← unhide hk6]; exact k6_isB (unhide hA).isB), .inr ⟨_, 0, rfl, kc_at (hL.get 0 (x := ⟨u2.heap.size, kc S, 25⟩) rfl)⟩, by omega, by omega⟩
    have hlt := lt_of_block (hL.get 0 (x := ⟨u2.heap.size, kc S, 25⟩) rfl)
    dsimp only at hlt
    clear hL hk6
    generalize u2.heap.size = gk at *
    replace hB := hide hB
    replace lk := hide lk
    go_upto_region 5 with fail
    replace hB := unhide hB
    replace lk := unhide lk
    refine any_start (S := fun _ => True) (by kernel_rfl) ?_
    replace hB := hB.drew
    replace lk := lk.gr (Gr.refl _).drew
    generalize World.drew _ = W0 at *
    have hold : ∀ y : Addr, k6 B ≠ [] → (some ⟨gk, 0, none⟩) = some y → y.block < W0.heap.size := by
      intro y h1 h2
      rcases lk.sl with h | ⟨p, o, e, h⟩
      · exact absurd h h1
      · rw [e] at h2
        have hy : y = ⟨p, o, none⟩ := (Option.some.inj h2).symm
        have := lt_of_cell (h 0 (by cases hh : k6 B with | nil => exact absurd hh h1 | cons x r => simp))
        rw [hy]
        exact this
    simp only [List.size_toArray, List.length_cons, List.length_nil, Array.replicate, List.replicate]
    refine float_first (fun q u => Mk W0.heap.size u q) 20 (fun b_ => #[false, b_, false, false]) 1 0 false rfl rfl (fun _ _ => trivial) (by kernel_rfl) (fun b_ => by cases b_ <;> rfl) ?_ ?_
    all_goals simp only [fw1, Act.put, List.setIfInBounds_toArray, List.set_cons_zero, List.set_cons_succ, List.getElem_toArray, List.getElem_cons_zero, List.getElem_cons_succ]
    · intro q_ x_ hgx K hK
      refine wpOp_step (o := _) rfl (fun K' hK' => ?_)
      refine step_val (.slice (some ⟨x_.heap.size, 0, none⟩) 64 64) (x_.alloc (.cells (kc Z6) 5 (0, 0))) (by kernel_rfl) (by kernel_rfl) ?_
      exact hK' _ _ (hK _ _ ((Gr.refl _).alloc _) ⟨_, rfl, blk_new _ _, hgx.size⟩)
    intro b1 q1 x1 hg1 hTq _
    refine wpOp_step (o := _) rfl (fun K hK => ?_)
    refine step_val (.slice (some ⟨x1.heap.size, 0, none⟩) 64 64) (x1.alloc (.cells (kc Z6) 5 (0, 0))) (by kernel_rfl) (by kernel_rfl) ?_
    refine hK _ _ ⟨trivial, ?_⟩
    clear hK K
    simp only [nrm]
    have hg := (Gr.refl x1).alloc (.cells (kc Z6) 5 (0, 0))
    have hin := blk_new x1 (.cells (kc Z6) 5 (0, 0))
    have hgi : W0.heap.size ≤ x1.heap.size := hg1.size
    have hT2 : b1 = true → Mk2 W0.heap.size x1.heap.size (x1.alloc (.cells (kc Z6) 5 (0, 0))) q1 := by
      intro e
      obtain ⟨g, h1, h2, h3⟩ := hTq e
      exact ⟨g, h1, hg.blk h2, h3, by have := lt_of_block h2; omega⟩
    have hG0 := hg1.trans hg
    generalize World.alloc _ _ = x2 at *
    generalize x1.heap.size = gi at *
    clear hTq hg hg1
    refine float_again (fun q u => Mk2 W0.heap.size gi u q) 20 (fun b_ => #[true, b_, false, false]) 1 2 false (b := b1) (q := q1) rfl rfl hT2 (fun _ _ => trivial) (by kernel_rfl) (fun b_ => by cases b_ <;> rfl) ?_ ?_
    all_goals simp only [fw1, Act.put, List.setIfInBounds_toArray, List.set_cons_zero, List.set_cons_succ, List.getElem_toArray, List.getElem_cons_zero, List.getElem_cons_succ]
    · intro q_ x_ hgx K hK
      refine wpOp_step (o := _) rfl (fun K' hK' => ?_)
      refine step_val (.slice (some ⟨x_.heap.size, 0, none⟩) 64 64) (x_.alloc (.cells (kc Z6) 5 (0, 0))) (by kernel_rfl) (by kernel_rfl) ?_
      exact hK' _ _ (hK _ _ ((Gr.refl _).alloc _) ⟨_, rfl, blk_new _ _, Nat.le_trans hG0.size hgx.size, by have := lt_of_block (hgx.blk hin); omega⟩)
    clear hT2
    intro b2 q2 x3 hg hT2 _
    replace hin := hg.blk hin
    replace hG0 := hG0.trans hg
    clear hg
    refine wpOp_step (o := _) rfl (fun K hK => ?_)
    refine step_val (.slice (some ⟨gi, 0, none⟩) 64 64) x3 (by kernel_rfl) (by kernel_rfl) ?_
    refine hK _ _ ⟨trivial, ?_⟩
    clear hK K
    simp only [nrm]
    refine float_again (fun q u => Mk2 W0.heap.size gi u q) 20 (fun b_ => #[true, b_, true, false]) 1 3 true (b := b2) (q := q2) rfl rfl hT2 (fun _ _ => trivial) (by kernel_rfl) (fun b_ => by cases b_ <;> rfl) ?_ ?_
    all_goals simp only [fw1, Act.put, List.setIfInBounds_toArray, List.set_cons_zero, List.set_cons_succ, List.getElem_toArray, List.getElem_cons_zero, List.getElem_cons_succ]
    · intro q_ x_ hgx K hK
      refine wpOp_step (o := _) rfl (fun K' hK' => ?_)
      refine step_val (.slice (some ⟨x_.heap.size, 0, none⟩) 64 64) (x_.alloc (.cells (kc Z6) 5 (0, 0))) (by kernel_rfl) (by kernel_rfl) ?_
      exact hK' _ _ (hK _ _ ((Gr.refl _).alloc _) ⟨_, rfl, blk_new _ _, Nat.le_trans hG0.size hgx.size, by have := lt_of_block (hgx.blk hin); omega⟩)
    clear hT2
    intro b3 q3 x4 hg hT2 hall
    obtain rfl : b3 = true := hall (by trivial)
    obtain ⟨go, rfl, hon, hgo, hne⟩ := hT2 rfl
    clear hall hT2
    replace hin := hg.blk hin
    replace hG0 := hG0.trans hg
    clear hg
    refine wpOp_step (o := _) rfl (fun K hK => ?_)
    refine step_val (.slice (some ⟨go, 0, none⟩) 64 64) x4 (by kernel_rfl) (by kernel_rfl) ?_
    refine hK _ _ ⟨trivial, ?_⟩
    clear hK K
    simp only [nrm]
    refine any_done (by kernel_rfl) ?_
    have hB2 : Bl w [⟨w.heap.size, kc Z32, 25⟩, ⟨gi, kc Z6, 5⟩, ⟨go, kc Z6, 5⟩] x4 := hB.join hG0 [⟨gi, kc Z6, 5⟩, ⟨go, kc Z6, 5⟩] (fun x hx => by
        simp only [List.mem_cons, List.not_mem_nil, or_false] at hx
        rcases hx with rfl | rfl
        · exact ⟨hin, hgi⟩
        · exact ⟨hon, hgo⟩) (List.pairwise_cons.2 ⟨fun y hy => by simp at hy; subst hy; exact fun e => hne e.symm, List.pairwise_singleton _ _⟩)
    replace lk := lk.gr hG0
    have hfar : Hid (∀ y : Addr, k6 B ≠ [] → (some ⟨gk, 0, none⟩) = some y → y.block ≠ gi ∧ y.block ≠ go) := fun y h1 h2 => by have := hold y h1 h2; exact ⟨by omega, by omega⟩
    clear hold hB hG0 hin hon hgi hgo hne
    have hB := hB2
    clear hB2
    replace hB : Hid (Bl w [⟨w.heap.size, kc Z32, 25⟩, ⟨gi, kc (YK (kxf B 54) 0), 5⟩, ⟨go, kc (YK (kxf B 92) 0), 5⟩] x4) := hB
    have hgx4 := hide (Gr.refl x4)
    replace lk := hide lk
    go_wp2_with fail
    go_loopw [9] (fun i wr => ∃ (k : Nat) (m1 m2 : List Int), k ≤ 64 ∧ i = .int .i64 k ∧ Hid (m1 = YK (kxf B 54) k) ∧ Hid (m2 = YK (kxf B 92) k) ∧ Hid (Lb wr (some ⟨gk, 0, none⟩) 32 32 (k6 B)) ∧ Hid (Bl w [⟨w.heap.size, kc Z32, 25⟩, ⟨gi, kc m1, 5⟩, ⟨go, kc m2, 5⟩] wr)) (fun i _ => 64 - (intOf i).toNat)
    case atStart => exact ⟨0, _, _, by omega, rfl, rfl, rfl, lk, hB⟩
    case round =>
    clear hB lk hgx4
    obtain ⟨k, m1, m2, hk, rfl, hm1, hm2, lk, hB⟩ := hrel
    have hl1 : m1.length = 64 := by rw [unhide hm1]; exact YK_len _ _
    have hl2 : m2.length = 64 := by rw [unhide hm2]; exact YK_len _ _
    by_cases hl : k < 64
    · have kI : (k : Int) < 64 := by omega
      have kJ : 0 ≤ (k : Int) ∧ (k : Int) < 64 := by omega
      have h1 := (unhide hB).get 1 (x := ⟨gi, kc m1, 5⟩) rfl
      have c1 := kc_cell h1 k (by omega)
      have f1 := froz_of (i := k) h1
      have hn1 : Hid (m1.set k (kxb ((k6 B).getD k 0) 54) = YK (kxf B 54) (k + 1)) := by rw [unhide hm1]; exact rfl
      have hn2 : Hid (m2.set k (kxb ((k6 B).getD k 0) 92) = YK (kxf B 92) (k + 1)) := by rw [unhide hm2]; exact rfl
      have hB2 := (unhide hB).cell 1 (x := ⟨gi, kc m1, 5⟩) rfl k (.int .u8 (kxb ((k6 B).getD k 0) 54))
      simp only [List.set_cons_zero, List.set_cons_succ, kc_set] at hB2
      have h2 := hB2.get 2 (x := ⟨go, kc m2, 5⟩) rfl
      have c2 := kc_cell h2 k (by omega)
      have f2 := froz_of (i := k) h2
      have hB3 := hB2.cell 2 (x := ⟨go, kc m2, 5⟩) rfl k (.int .u8 (kxb ((k6 B).getD k 0) 92))
      simp only [List.set_cons_zero, List.set_cons_succ, kc_set] at hB3
      have hne : gi ≠ go := by
        have := List.pairwise_cons.1 (List.pairwise_cons.1 hB3.ne).2
        exact this.1 _ List.mem_cons_self
      have lk2 : Hid (Lb ((wr.setCell ⟨gi, k, none⟩ (.int .u8 (kxb ((k6 B).getD k 0) 54))).setCell ⟨go, k, none⟩ (.int .u8 (kxb ((k6 B).getD k 0) 92))) (some ⟨gk, 0, none⟩) 32 32 (k6 B)) := by
        refine ⟨(unhide lk).len, (unhide lk).isB, ?_, (unhide lk).cap, (unhide lk).max⟩
        rcases (unhide lk).sl with h | ⟨p, o, e, h⟩
        · exact .inl h
        · refine .inr ⟨p, o, e, fun j hj => ?_⟩
          have hp := (unhide hfar) ⟨p, o, none⟩ (by intro e0; rw [e0] at hj; simp at hj) e
          have n1 : p ≠ gi := by have := hp.1; exact this
          have n2 : p ≠ go := by have := hp.2; exact this
          rw [cell_heap (Below.heap_setCell _ ⟨go, k, none⟩ _ p n2), cell_heap (Below.heap_setCell _ ⟨gi, k, none⟩ _ p n1)]
          exact h j hj
      generalize m1.getD k 0 = o1 at c1
      generalize m2.getD k 0 = o2 at c2
      clear h1 h2 hB2 hm1 hm2
      replace hB3 := hide hB3
      by_cases hlk : k < 32
      · have kn : (k : Int) < 32 := by omega
        have kn2 : 0 ≤ (k : Int) ∧ (k : Int) < 32 := by omega
        obtain ⟨p, o, hpo, cc⟩ := (unhide lk).cellAt hlk
        cases hpo
        try rw [Nat.zero_add] at cc
        clear lk
        generalize (k6 B).getD k 0 = y at *
        unfold kxb at *
        go_wp2_with fail
        go_roundw
        case rel => exact ⟨k + 1, _, _, by omega, by go_num, hn1, hn2, lk2, hB3⟩
        case measure => simp [intOf]; omega
      · have kn : ¬ (k : Int) < 32 := by omega
        have h0 : (k6 B).getD k 0 = 0 := by rw [List.getD_eq_getElem?_getD, List.getElem?_eq_none (by rw [(unhide lk).len]; omega)]; rfl
        rw [h0] at hn1 hn2 lk2 hB3 c2 f2
        clear lk
        unfold kxb at *
        go_wp2_with fail
        go_roundw
        case rel => exact ⟨k + 1, _, _, by omega, by go_num, hn1, hn2, lk2, hB3⟩
        case measure => simp [intOf]; omega
    · have e : k = 64 := by omega
      subst e
      have e1 : m1 = padK B 54 := (unhide hm1).trans (YK_all B 54)
      have e2 : m2 = padK B 92 := (unhide hm2).trans (YK_all B 92)
      have hB2 : Bl w [⟨w.heap.size, kc Z32, 25⟩, ⟨gi, kc (padK B 54), 5⟩, ⟨go, kc (padK B 92), 5⟩] wr := by rw [← e1, ← e2]; exact unhide hB
      clear hB hm1 hm2 e1 e2 lk hl1 hl2 hl hfar
      have hB := hide hB2
      clear hB2
      go_upto_region 14 with fail
      replace hB := unhide hB
      refine wp_region_lit ?_
      replace hB := hide hB
      iterate 2 (refine wpList_step fun K hK => ?_; replace hK := hide hK; go_simp; refine unhide hK _ _ ?_; clear hK K)
      replace hB := unhide hB
      refine list_call 93 #[.slice (some ⟨gi, 0, none⟩) 64 64, .slice b m d] (by kernel_rfl) (by kernel_rfl) ((both_ok (padK B 54) X (some ⟨gi, 0, none⟩) b 64 64 m d (by omega) _ (kc5_lb (hB.get 1 (x := ⟨gi, kc (padK B 54), 5⟩) rfl) (padK_len _ _) (padK_isB _ _)) ((unhide hX).gr hB.gr)).mono ?_)
      rintro r v1 ⟨y1, rfl, hO, hg⟩
      refine ⟨_, rfl, ?_⟩
      obtain ⟨a1, c1, rfl, l1⟩ := hO.lb (isB_append (padK_isB _ _) (unhide hX).isB)
      have hl1 : (padK B 54 ++ X).length = 64 + m := by rw [List.length_append, padK_len, (unhide hX).len]
      rw [hl1] at l1
      rw [hl1]
      replace hB := hB.more hg
      clear hg hO hl1
      simp only [nrm]
      refine list_call 33 #[.slice a1 (64 + m) c1] (by kernel_rfl) (by kernel_rfl) ((rsum_ok (padK B 54 ++ X) l1.isB (64 + m) l1.len (by omega) a1 c1 _ l1.sl).mono ?_)
      rintro r v2 ⟨rfl, hg⟩
      refine ⟨_, rfl, ?_⟩
      replace hB := hB.more hg
      clear hg l1
      simp only [nrm]
      have hSum : Hid (sumL (padK B 92 ++ sumL (padK B 54 ++ X)) = hmacL B X) := rfl
      obtain ⟨M, hM⟩ : ∃ M, M = sumL (padK B 54 ++ X) := ⟨_, rfl⟩
      have hMl : M.length = 32 := by rw [hM]; exact sumL_len _
      have hMb : Hid (IsB M) := by rw [hM]; exact sumL_isB _
      rw [← hM] at hSum
      rw [← hM]
      clear hM
      replace hB := hide hB
      iterate 1 (refine wpList_step fun K hK => ?_; replace hK := hide hK; go_simp; refine unhide hK _ _ ?_; clear hK K)
      replace hB := (unhide hB).new #[.int .u8 0, .int .u8 0, .int .u8 0, .int .u8 0, .int .u8 0, .int .u8 0, .int .u8 0, .int .u8 0, .int .u8 0, .int .u8 0, .int .u8 0, .int .u8 0, .int .u8 0, .int .u8 0, .int .u8 0, .int .u8 0, .int .u8 0, .int .u8 0, .int .u8 0, .int .u8 0, .int .u8 0, .int .u8 0, .int .u8 0, .int .u8 0, .int .u8 0, .int .u8 0, .int .u8 0, .int .u8 0, .int .u8 0, .int .u8 0, .int .u8 0, .int .u8 0] 25
      simp only [List.cons_append, List.nil_append] at hB
      generalize World.alloc _ _ = v3 at *
      generalize v2.heap.size = gs at *
      replace hB : Bl w [⟨w.heap.size, kc Z32, 25⟩, ⟨gi, kc (padK B 54), 5⟩, ⟨go, kc (padK B 92), 5⟩, ⟨gs, kc Z32, 25⟩] v3 := hB
      refine list_store 25 (.tmp 11) (.tmp 46) gs (kc M) 25 (kc Z32) (by kernel_rfl) rfl (by kernel_rfl) (by kernel_rfl) (hB.get 3 (x := ⟨gs, kc Z32, 25⟩) rfl) (by rw [Tryd.infoKey, kc_size, hMl]) ((show (kc Z32).size = 32 from rfl).trans ((kc_size _).trans hMl).symm) (kc_one _) ?_
      replace hB := hB.set 3 (x := ⟨gs, kc Z32, 25⟩) rfl (kc M)
      simp only [List.set_cons_zero, List.set_cons_succ] at hB
      generalize World.setRow _ _ _ = v4 at *
      simp only [nrm]
      refine wpList_nil ?_
      replace hB := hide hB
      go_upto_region 15 with fail
      refine wp_region_lit ?_
      iterate 2 (refine wpList_step fun K hK => ?_; replace hK := hide hK; go_simp; refine unhide hK _ _ ?_; clear hK K)
      replace hB := unhide hB
      refine list_call 93 #[.slice (some ⟨go, 0, none⟩) 64 64, .slice (some ⟨gs, 0, none⟩) 32 32] (by kernel_rfl) (by kernel_rfl) ((both_ok (padK B 92) M (some ⟨go, 0, none⟩) (some ⟨gs, 0, none⟩) 64 64 32 32 (by omega) _ (kc5_lb (hB.get 2 (x := ⟨go, kc (padK B 92), 5⟩) rfl) (padK_len _ _) (padK_isB _ _)) ⟨hMl, unhide hMb, .inr ⟨gs, 0, rfl, kc_at (hB.get 3 (x := ⟨gs, kc M, 25⟩) rfl)⟩, by omega, by omega⟩).mono ?_)
      rintro r v5 ⟨y5, rfl, hO, hg⟩
      refine ⟨_, rfl, ?_⟩
      obtain ⟨a5, c5, rfl, l5⟩ := hO.lb (isB_append (padK_isB _ _) (unhide hMb))
      have hl5 : (padK B 92 ++ M).length = 96 := by rw [List.length_append, padK_len, hMl]
      rw [hl5] at l5
      rw [hl5]
      replace hB := hB.more hg
      clear hg hO hl5
      simp only [nrm]
      refine list_call 33 #[.slice a5 96 c5] (by kernel_rfl) (by kernel_rfl) ((rsum_ok (padK B 92 ++ M) l5.isB 96 l5.len (by omega) a5 c5 _ l5.sl).mono ?_)
      rintro r v6 ⟨rfl, hg⟩
      refine ⟨_, rfl, ?_⟩
      replace hB := hB.more hg
      clear hg l5
      rw [unhide hSum]
      simp only [nrm]
      have hRl : (hmacL B X).length = 32 := hmacL_len _ _
      obtain ⟨R, hR⟩ : ∃ R, R = hmacL B X := ⟨_, rfl⟩
      rw [← hR] at hRl
      rw [← hR]
      refine list_store 25 (.tmp 4) (.tmp 50) w.heap.size (kc R) 25 (kc Z32) (by kernel_rfl) rfl (by kernel_rfl) (by kernel_rfl) (hB.get 0 (x := ⟨w.heap.size, kc Z32, 25⟩) rfl) (by rw [Tryd.infoKey, kc_size, hRl]) ((show (kc Z32).size = 32 from rfl).trans ((kc_size _).trans hRl).symm) (kc_one _) ?_
      replace hB := hB.set 0 (x := ⟨w.heap.size, kc Z32, 25⟩) rfl (kc R)
      simp only [List.set_cons_zero, List.set_cons_succ] at hB
      generalize World.setRow _ _ _ = v7 at *
      simp only [nrm]
      refine wpList_nil ?_
      go_wp2_with fail
      rw [unhide hT]
      exact bodyPost_ret (v := .agg (kc R)) (results_cell_row Tryd.results92 _ _ w.heap.size 25 (kc R) (0, 0) _ rfl (hB.get 0 (x := ⟨w.heap.size, kc R, 25⟩) rfl) Tryd.underlying25 rfl (by rw [Tryd.infoKey, kc_size, hRl])) rfl ⟨by rw [hR], hB.gr⟩
  · have lI : ¬ 64 < (n : Int) := by omega
    have hk6 : Hid (k6 B = B) := by unfold k6; rw [if_neg (by rw [unhide la]; exact hl64)]; exact rfl
    go_enter Tryd.func92, Tryd.ntmps92
    go_upto_region 5 with fail
    have hB := (Bl.nil w).new #[.int .u8 0, .int .u8 0, .int .u8 0, .int .u8 0, .int .u8 0, .int .u8 0, .int .u8 0, .int .u8 0, .int .u8 0, .int .u8 0, .int .u8 0, .int .u8 0, .int .u8 0, .int .u8 0, .int .u8 0, .int .u8 0, .int .u8 0, .int .u8 0, .int .u8 0, .int .u8 0, .int .u8 0, .int .u8 0, .int .u8 0, .int .u8 0, .int .u8 0, .int .u8 0, .int .u8 0, .int .u8 0, .int .u8 0, .int .u8 0, .int .u8 0, .int .u8 0] 25
    simp only [List.nil_append] at hB
    generalize World.alloc _ _ = u4 at *
    replace hB : Bl w [⟨w.heap.size, kc Z32, 25⟩] u4 := hB
    have lk : Lb u4 a n c (k6 B) := by rw [unhide hk6]; exact (unhide hA).gr hB.gr
    clear hk6
    refine any_start (S := fun _ => True) (by kernel_rfl) ?_
    replace hB := hB.drew
    replace lk := lk.gr (Gr.refl _).drew
    generalize World.drew _ = W0 at *
    have hold : ∀ y : Addr, k6 B ≠ [] → a = some y → y.block < W0.heap.size := by
      intro y h1 h2
      rcases lk.sl with h | ⟨p, o, e, h⟩
      · exact absurd h h1
      · rw [e] at h2
        have hy : y = ⟨p, o, none⟩ := (Option.some.inj h2).symm
        have := lt_of_cell (h 0 (by cases hh : k6 B with | nil => exact absurd hh h1 | cons x r => simp))
        rw [hy]
        exact this
    simp only [List.size_toArray, List.length_cons, List.length_nil, Array.replicate, List.replicate]
    refine float_first (fun q u => Mk W0.heap.size u q) 20 (fun b_ => #[false, b_, false, false]) 1 0 false rfl rfl (fun _ _ => trivial) (by kernel_rfl) (fun b_ => by cases b_ <;> rfl) ?_ ?_
    all_goals simp only [fw1, Act.put, List.setIfInBounds_toArray, List.set_cons_zero, List.set_cons_succ, List.getElem_toArray, List.getElem_cons_zero, List.getElem_cons_succ]
    · intro q_ x_ hgx K hK
      refine wpOp_step (o := _) rfl (fun K' hK' => ?_)
      refine step_val (.slice (some ⟨x_.heap.size, 0, none⟩) 64 64) (x_.alloc (.cells (kc Z6) 5 (0, 0))) (by kernel_rfl) (by kernel_rfl) ?_
      exact hK' _ _ (hK _ _ ((Gr.refl _).alloc _) ⟨_, rfl, blk_new _ _, hgx.size⟩)
    intro b1 q1 x1 hg1 hTq _
    refine wpOp_step (o := _) rfl (fun K hK => ?_)
    refine step_val (.slice (some ⟨x1.heap.size, 0, none⟩) 64 64) (x1.alloc (.cells (kc Z6) 5 (0, 0))) (by kernel_rfl) (by kernel_rfl) ?_
    refine hK _ _ ⟨trivial, ?_⟩
    clear hK K
    simp only [nrm]
    have hg := (Gr.refl x1).alloc (.cells (kc Z6) 5 (0, 0))
    have hin := blk_new x1 (.cells (kc Z6) 5 (0, 0))
    have hgi : W0.heap.size ≤ x1.heap.size := hg1.size
    have hT2 : b1 = true → Mk2 W0.heap.size x1.heap.size (x1.alloc (.cells (kc Z6) 5 (0, 0))) q1 := by
      intro e
      obtain ⟨g, h1, h2, h3⟩ := hTq e
      exact ⟨g, h1, hg.blk h2, h3, by have := lt_of_block h2; omega⟩
    have hG0 := hg1.trans hg
    generalize World.alloc _ _ = x2 at *
    generalize x1.heap.size = gi at *
    clear hTq hg hg1
    refine float_again (fun q u => Mk2 W0.heap.size gi u q) 20 (fun b_ => #[true, b_, false, false]) 1 2 false (b := b1) (q := q1) rfl rfl hT2 (fun _ _ => trivial) (by kernel_rfl) (fun b_ => by cases b_ <;> rfl) ?_ ?_
    all_goals simp only [fw1, Act.put, List.setIfInBounds_toArray, List.set_cons_zero, List.set_cons_succ, List.getElem_toArray, List.getElem_cons_zero, List.getElem_cons_succ]
    · intro q_ x_ hgx K hK
      refine wpOp_step (o := _) rfl (fun K' hK' => ?_)
      refine step_val (.slice (some ⟨x_.heap.size, 0, none⟩) 64 64) (x_.alloc (.cells (kc Z6) 5 (0, 0))) (by kernel_rfl) (by kernel_rfl) ?_
      exact hK' _ _ (hK _ _ ((Gr.refl _).alloc _) ⟨_, rfl, blk_new _ _, Nat.le_trans hG0.size hgx.size, by have := lt_of_block (hgx.blk hin); omega⟩)
    clear hT2
    intro b2 q2 x3 hg hT2 _
    replace hin := hg.blk hin
    replace hG0 := hG0.trans hg
    clear hg
    refine wpOp_step (o := _) rfl (fun K hK => ?_)
    refine step_val (.slice (some ⟨gi, 0, none⟩) 64 64) x3 (by kernel_rfl) (by kernel_rfl) ?_
    refine hK _ _ ⟨trivial, ?_⟩
    clear hK K
    simp only [nrm]
    refine float_again (fun q u => Mk2 W0.heap.size gi u q) 20 (fun b_ => #[true, b_, true, false]) 1 3 true (b := b2) (q := q2) rfl rfl hT2 (fun _ _ => trivial) (by kernel_rfl) (fun b_ => by cases b_ <;> rfl) ?_ ?_
    all_goals simp only [fw1, Act.put, List.setIfInBounds_toArray, List.set_cons_zero, List.set_cons_succ, List.getElem_toArray, List.getElem_cons_zero, List.getElem_cons_succ]
    · intro q_ x_ hgx K hK
      refine wpOp_step (o := _) rfl (fun K' hK' => ?_)
      refine step_val (.slice (some ⟨x_.heap.size, 0, none⟩) 64 64) (x_.alloc (.cells (kc Z6) 5 (0, 0))) (by kernel_rfl) (by kernel_rfl) ?_
      exact hK' _ _ (hK _ _ ((Gr.refl _).alloc _) ⟨_, rfl, blk_new _ _, Nat.le_trans hG0.size hgx.size, by have := lt_of_block (hgx.blk hin); omega⟩)
    clear hT2
    intro b3 q3 x4 hg hT2 hall
    obtain rfl : b3 = true := hall (by trivial)
    obtain ⟨go, rfl, hon, hgo, hne⟩ := hT2 rfl
    clear hall hT2
    replace hin := hg.blk hin
    replace hG0 := hG0.trans hg
    clear hg
    refine wpOp_step (o := _) rfl (fun K hK => ?_)
    refine step_val (.slice (some ⟨go, 0, none⟩) 64 64) x4 (by kernel_rfl) (by kernel_rfl) ?_
    refine hK _ _ ⟨trivial, ?_⟩
    clear hK K
    simp only [nrm]
    refine any_done (by kernel_rfl) ?_
    have hB2 : Bl w [⟨w.heap.size, kc Z32, 25⟩, ⟨gi, kc Z6, 5⟩, ⟨go, kc Z6, 5⟩] x4 := hB.join hG0 [⟨gi, kc Z6, 5⟩, ⟨go, kc Z6, 5⟩] (fun x hx => by
        simp only [List.mem_cons, List.not_mem_nil, or_false] at hx
        rcases hx with rfl | rfl
        · exact ⟨hin, hgi⟩
        · exact ⟨hon, hgo⟩) (List.pairwise_cons.2 ⟨fun y hy => by simp at hy; subst hy; exact fun e => hne e.symm, List.pairwise_singleton _ _⟩)
    replace lk := lk.gr hG0
    have hfar : Hid (∀ y : Addr, k6 B ≠ [] → a = some y → y.block ≠ gi ∧ y.block ≠ go) := fun y h1 h2 => by have := hold y h1 h2; exact ⟨by omega, by omega⟩
    clear hold hB hG0 hin hon hgi hgo hne
    have hB := hB2
    clear hB2
    replace hB : Hid (Bl w [⟨w.heap.size, kc Z32, 25⟩, ⟨gi, kc (YK (kxf B 54) 0), 5⟩, ⟨go, kc (YK (kxf B 92) 0), 5⟩] x4) := hB
    have hgx4 := hide (Gr.refl x4)
    replace lk := hide lk
    go_wp2_with fail
    go_loopw [9] (fun i wr => ∃ (k : Nat) (m1 m2 : List Int), k ≤ 64 ∧ i = .int .i64 k ∧ Hid (m1 = YK (kxf B 54) k) ∧ Hid (m2 = YK (kxf B 92) k) ∧ Hid (Lb wr a n c (k6 B)) ∧ Hid (Bl w [⟨w.heap.size, kc Z32, 25⟩, ⟨gi, kc m1, 5⟩, ⟨go, kc m2, 5⟩] wr)) (fun i _ => 64 - (intOf i).toNat)
    case atStart => exact ⟨0, _, _, by omega, rfl, rfl, rfl, lk, hB⟩
    case round =>
    clear hB lk hgx4
    obtain ⟨k, m1, m2, hk, rfl, hm1, hm2, lk, hB⟩ := hrel
    have hl1 : m1.length = 64 := by rw [unhide hm1]; exact YK_len _ _
    have hl2 : m2.length = 64 := by rw [unhide hm2]; exact YK_len _ _
    by_cases hl : k < 64
    · have kI : (k : Int) < 64 := by omega
      have kJ : 0 ≤ (k : Int) ∧ (k : Int) < 64 := by omega
      have h1 := (unhide hB).get 1 (x := ⟨gi, kc m1, 5⟩) rfl
      have c1 := kc_cell h1 k (by omega)
      have f1 := froz_of (i := k) h1
      have hn1 : Hid (m1.set k (kxb ((k6 B).getD k 0) 54) = YK (kxf B 54) (k + 1)) := by rw [unhide hm1]; exact rfl
      have hn2 : Hid (m2.set k (kxb ((k6 B).getD k 0) 92) = YK (kxf B 92) (k + 1)) := by rw [unhide hm2]; exact rfl
      have hB2 := (unhide hB).cell 1 (x := ⟨gi, kc m1, 5⟩) rfl k (.int .u8 (kxb ((k6 B).getD k 0) 54))
      simp only [List.set_cons_zero, List.set_cons_succ, kc_set] at hB2
      have h2 := hB2.get 2 (x := ⟨go, kc m2, 5⟩) rfl
      have c2 := kc_cell h2 k (by omega)
      have f2 := froz_of (i := k) h2
      have hB3 := hB2.cell 2 (x := ⟨go, kc m2, 5⟩) rfl k (.int .u8 (kxb ((k6 B).getD k 0) 92))
      simp only [List.set_cons_zero, List.set_cons_succ, kc_set] at hB3
      have hne : gi ≠ go := by
        have := List.pairwise_cons.1 (List.pairwise_cons.1 hB3.ne).2
        exact this.1 _ List.mem_cons_self
      have lk2 : Hid (Lb ((wr.setCell ⟨gi, k, none⟩ (.int .u8 (kxb ((k6 B).getD k 0) 54))).setCell ⟨go, k, none⟩ (.int .u8 (kxb ((k6 B).getD k 0) 92))) a n c (k6 B)) := by
        refine ⟨(unhide lk).len, (unhide lk).isB, ?_, (unhide lk).cap, (unhide lk).max⟩
        rcases (unhide lk).sl with h | ⟨p, o, e, h⟩
        · exact .inl h
        · refine .inr ⟨p, o, e, fun j hj => ?_⟩
          have hp := (unhide hfar) ⟨p, o, none⟩ (by intro e0; rw [e0] at hj; simp at hj) e
          have n1 : p ≠ gi := by have := hp.1; exact this
          have n2 : p ≠ go := by have := hp.2; exact this
          rw [cell_heap (Below.heap_setCell _ ⟨go, k, none⟩ _ p n2), cell_heap (Below.heap_setCell _ ⟨gi, k, none⟩ _ p n1)]
          exact h j hj
      generalize m1.getD k 0 = o1 at c1
      generalize m2.getD k 0 = o2 at c2
      clear h1 h2 hB2 hm1 hm2
      replace hB3 := hide hB3
      by_cases hlk : k < n
      · have kn : (k : Int) < (n : Int) := by omega
        have kn2 : 0 ≤ (k : Int) ∧ (k : Int) < (n : Int) := by omega
        obtain ⟨p, o, hpo, cc⟩ := (unhide lk).cellAt hlk
        cases hpo
        try rw [Nat.zero_add] at cc
        clear lk
        generalize (k6 B).getD k 0 = y at *
        unfold kxb at *
        go_wp2_with fail
        go_roundw
        case rel => exact ⟨k + 1, _, _, by omega, by go_num, hn1, hn2, lk2, hB3⟩
        case measure => simp [intOf]; omega
      · have kn : ¬ (k : Int) < (n : Int) := by omega
        have h0 : (k6 B).getD k 0 = 0 := by rw [List.getD_eq_getElem?_getD, List.getElem?_eq_none (by rw [(unhide lk).len]; omega)]; rfl
        rw [h0] at hn1 hn2 lk2 hB3 c2 f2
        clear lk
        unfold kxb at *
        go_wp2_with fail
        go_roundw
        case rel => exact ⟨k + 1, _, _, by omega, by go_num, hn1, hn2, lk2, hB3⟩
        case measure => simp [intOf]; omega
    · have e : k = 64 := by omega
      subst e
      have e1 : m1 = padK B 54 := (unhide hm1).trans (YK_all B 54)
      have e2 : m2 = padK B 92 := (unhide hm2).trans (YK_all B 92)
      have hB2 : Bl w [⟨w.heap.size, kc Z32, 25⟩, ⟨gi, kc (padK B 54), 5⟩, ⟨go, kc (padK B 92), 5⟩] wr := by rw [← e1, ← e2]; exact unhide hB
      clear hB hm1 hm2 e1 e2 lk hl1 hl2 hl hfar
      have hB := hide hB2
      clear hB2
      go_upto_region 14 with fail
      replace hB := unhide hB
      refine wp_region_lit ?_
      replace hB := hide hB
      iterate 2 (refine wpList_step fun K hK => ?_; replace hK := hide hK; go_simp; refine unhide hK _ _ ?_; clear hK K)
      replace hB := unhide hB
      refine list_call 93 #[.slice (some ⟨gi, 0, none⟩) 64 64, .slice b m d] (by kernel_rfl) (by kernel_rfl) ((both_ok (padK B 54) X (some ⟨gi, 0, none⟩) b 64 64 m d (by omega) _ (kc5_lb (hB.get 1 (x := ⟨gi, kc (padK B 54), 5⟩) rfl) (padK_len _ _) (padK_isB _ _)) ((unhide hX).gr hB.gr)).mono ?_)
      rintro r v1 ⟨y1, rfl, hO, hg⟩
      refine ⟨_, rfl, ?_⟩
      obtain ⟨a1, c1, rfl, l1⟩ := hO.lb (isB_append (padK_isB _ _) (unhide hX).isB)
      have hl1 : (padK B 54 ++ X).length = 64 + m := by rw [List.length_append, padK_len, (unhide hX).len]
      rw [hl1] at l1
      rw [hl1]
      replace hB := hB.more hg
      clear hg hO hl1
      simp only [nrm]
      refine list_call 33 #[.slice a1 (64 + m) c1] (by kernel_rfl) (by kernel_rfl) ((rsum_ok (padK B 54 ++ X) l1.isB (64 + m) l1.len (by omega) a1 c1 _ l1.sl).mono ?_)
      rintro r v2 ⟨rfl, hg⟩
      refine ⟨_, rfl, ?_⟩
      replace hB := hB.more hg
      clear hg l1
      simp only [nrm]
      have hSum : Hid (sumL (padK B 92 ++ sumL (padK B 54 ++ X)) = hmacL B X) := rfl
      obtain ⟨M, hM⟩ : ∃ M, M = sumL (padK B 54 ++ X) := ⟨_, rfl⟩
      have hMl : M.length = 32 := by rw [hM]; exact sumL_len _
      have hMb : Hid (IsB M) := by rw [hM]; exact sumL_isB _
      rw [← hM] at hSum
      rw [← hM]
      clear hM
      replace hB := hide hB
      iterate 1 (refine wpList_step fun K hK => ?_; replace hK := hide hK; go_simp; refine unhide hK _ _ ?_; clear hK K)
      replace hB := (unhide hB).new #[.int .u8 0, .int .u8 0, .int .u8 0, .int .u8 0, .int .u8 0, .int .u8 0, .int .u8 0, .int .u8 0, .int .u8 0, .int .u8 0, .int .u8 0, .int .u8 0, .int .u8 0, .int .u8 0, .int .u8 0, .int .u8 0, .int .u8 0, .int .u8 0, .int .u8 0, .int .u8 0, .int .u8 0, .int .u8 0, .int .u8 0, .int .u8 0, .int .u8 0, .int .u8 0, .int .u8 0, .int .u8 0, .int .u8 0, .int .u8 0, .int .u8 0, .int .u8 0] 25
      simp only [List.cons_append, List.nil_append] at hB
      generalize World.alloc _ _ = v3 at *
      generalize v2.heap.size = gs at *
      replace hB : Bl w [⟨w.heap.size, kc Z32, 25⟩, ⟨gi, kc (padK B 54), 5⟩, ⟨go, kc (padK B 92), 5⟩, ⟨gs, kc Z32, 25⟩] v3 := hB
      refine list_store 25 (.tmp 11) (.tmp 46) gs (kc M) 25 (kc Z32) (by kernel_rfl) rfl (by kernel_rfl) (by kernel_rfl) (hB.get 3 (x := ⟨gs, kc Z32, 25⟩) rfl) (by rw [Tryd.infoKey, kc_size, hMl]) ((show (kc Z32).size = 32 from rfl).trans ((kc_size _).trans hMl).symm) (kc_one _) ?_
      replace hB := hB.set 3 (x := ⟨gs, kc Z32, 25⟩) rfl (kc M)
      simp only [List.set_cons_zero, List.set_cons_succ] at hB
      generalize World.setRow _ _ _ = v4 at *
      simp only [nrm]
      refine wpList_nil ?_
      replace hB := hide hB
      go_upto_region 15 with fail
      refine wp_region_lit ?_
      iterate 2 (refine wpList_step fun K hK => ?_; replace hK := hide hK; go_simp; refine unhide hK _ _ ?_; clear hK K)
      replace hB := unhide hB
      refine list_call 93 #[.slice (some ⟨go, 0, none⟩) 64 64, .slice (some ⟨gs, 0, none⟩) 32 32] (by kernel_rfl) (by kernel_rfl) ((both_ok (padK B 92) M (some ⟨go, 0, none⟩) (some ⟨gs, 0, none⟩) 64 64 32 32 (by omega) _ (kc5_lb (hB.get 2 (x := ⟨go, kc (padK B 92), 5⟩) rfl) (padK_len _ _) (padK_isB _ _)) ⟨hMl, unhide hMb, .inr ⟨gs, 0, rfl, kc_at (hB.get 3 (x := ⟨gs, kc M, 25⟩) rfl)⟩, by omega, by omega⟩).mono ?_)
      rintro r v5 ⟨y5, rfl, hO, hg⟩
      refine ⟨_, rfl, ?_⟩
      obtain ⟨a5, c5, rfl, l5⟩ := hO.lb (isB_append (padK_isB _ _) (unhide hMb))
      have hl5 : (padK B 92 ++ M).length = 96 := by rw [List.length_append, padK_len, hMl]
      rw [hl5] at l5
      rw [hl5]
      replace hB := hB.more hg
      clear hg hO hl5
      simp only [nrm]
      refine list_call 33 #[.slice a5 96 c5] (by kernel_rfl) (by kernel_rfl) ((rsum_ok (padK B 92 ++ M) l5.isB 96 l5.len (by omega) a5 c5 _ l5.sl).mono ?_)
      rintro r v6 ⟨rfl, hg⟩
      refine ⟨_, rfl, ?_⟩
      replace hB := hB.more hg
      clear hg l5
      rw [unhide hSum]
      simp only [nrm]
      have hRl : (hmacL B X).length = 32 := hmacL_len _ _
      obtain ⟨R, hR⟩ : ∃ R, R = hmacL B X := ⟨_, rfl⟩
      rw [← hR] at hRl
      rw [← hR]
      refine list_store 25 (.tmp 4) (.tmp 50) w.heap.size (kc R) 25 (kc Z32) (by kernel_rfl) rfl (by kernel_rfl) (by kernel_rfl) (hB.get 0 (x := ⟨w.heap.size, kc Z32, 25⟩) rfl) (by rw [Tryd.infoKey, kc_size, hRl]) ((show (kc Z32).size = 32 from rfl).trans ((kc_size _).trans hRl).symm) (kc_one _) ?_
      replace hB := hB.set 0 (x := ⟨w.heap.size, kc Z32, 25⟩) rfl (kc R)
      simp only [List.set_cons_zero, List.set_cons_succ] at hB
      generalize World.setRow _ _ _ = v7 at *
      simp only [nrm]
      refine wpList_nil ?_
      go_wp2_with fail
      rw [unhide hT]
      exact bodyPost_ret (v := .agg (kc R)) (results_cell_row Tryd.results92 _ _ w.heap.size 25 (kc R) (0, 0) _ rfl (hB.get 0 (x := ⟨w.heap.size, kc R, 25⟩) rfl) Tryd.underlying25 rfl (by rw [Tryd.infoKey, kc_size, hRl])) rfl ⟨by rw [hR], hB.gr⟩
theorem Lb.old {w : World} {a : Option Addr} {n c : Nat} {D : List Int} (h : Lb w a n c D) : ∀ y, a = some y → y.block < w.heap.size ∨ D = [] := by
  intro y hy
  rcases h.sl with h1 | ⟨p, o, e, h2⟩
  · exact .inr h1
  · by_cases h0 : D = []
    · exact .inr h0
    · rw [e] at hy
      have hy2 : y = ⟨p, o, none⟩ := (Option.some.inj hy).symm
      have := lt_of_cell (h2 0 (by cases hh : D with | nil => exact absurd hh h0 | cons x r => simp))
      rw [hy2]
      exact .inl this
def chkF2 (md : Region.Mode) (ops : Array Oper) (F : Bool → Bool → Array Bool) (i1 i2 c : Nat) (all : Bool) : Bool :=
  [false, true].all fun b1 => [false, true].all fun b2 =>
    !(Region.ready md ops (F b1 b2)).isEmpty && (Region.ready md ops (F b1 b2)).all fun i => (i == i1 && !b1) || (i == i2 && !b2) || (i == c && (!all || b1))
theorem chkF2_spec {md : Region.Mode} {ops : Array Oper} {F : Bool → Bool → Array Bool} {i1 i2 c : Nat} {all : Bool} (h : chkF2 md ops F i1 i2 c all = true) :
    ∀ b1 b2, Region.ready md ops (F b1 b2) ≠ [] ∧ ∀ i ∈ Region.ready md ops (F b1 b2), (i = i1 ∧ b1 = false) ∨ (i = i2 ∧ b2 = false) ∨ (i = c ∧ (all = true → b1 = true)) := by
  have mb : ∀ b : Bool, b ∈ [false, true] := by intro b; cases b <;> simp
  intro b1 b2
  have h1 := (List.all_eq_true.1 (List.all_eq_true.1 h b1 (mb b1)) b2 (mb b2))
  rw [Bool.and_eq_true] at h1
  refine ⟨fun e => ?_, fun i hi => ?_⟩
  · rw [e] at h1
    exact absurd h1.1 (by decide)
  · have h2 := List.all_eq_true.1 h1.2 i hi
    rw [Bool.or_eq_true] at h2
    rcases h2 with h2 | h2
    · simp only [Bool.or_eq_true, Bool.and_eq_true, beq_iff_eq, Bool.not_eq_true'] at h2
      exact h2.elim .inl (fun h => .inr (.inl h))
    · rw [Bool.and_eq_true, beq_iff_eq] at h2
      obtain ⟨rfl, h3⟩ := h2
      refine .inr (.inr ⟨rfl, fun ha => ?_⟩)
      rw [ha] at h3
      simpa using h3
section
variable {P : Program} {md : Region.Mode} {ops : Array Oper} {Q : Exit → Act → World → Prop} {S : World → Prop}
theorem float2 (T1 T2 : Value → World → Prop) (p1 p2 : Nat) (F : Bool → Bool → Array Bool) (i1 i2 c : Nat) (all : Bool) {b1 b2 : Bool} {q1 q2 : Value} {l : Array Bool} {a : Act} {W : World}
    (hl : l = F b1 b2) (ha : fw1 (fw1 a p1 q1) p2 q2 = a) (h1 : b1 = true → T1 q1 W) (h2 : b2 = true → T2 q2 W)
    (t1 : ∀ q u v, T1 q u → Gr u v → T1 q v) (t2 : ∀ q u v, T2 q u → Gr u v → T2 q v)
    (hS : ∀ v, Gr W v → S v) (hchk : chkF2 md ops F i1 i2 c all = true) (hF1 : ∀ b1 b2, (F b1 b2).setIfInBounds i1 true = F true b2) (hF2 : ∀ b1 b2, (F b1 b2).setIfInBounds i2 true = F b1 true)
    (new1 : ∀ q q2 w, Gr W w → ∀ K : Act → World → Prop, (∀ v w', Gr w w' → T1 v w' → K (fw1 (fw1 a p1 v) p2 q2) w') → wpOp P ops Q i1 K (fw1 (fw1 a p1 q) p2 q2) w)
    (new2 : ∀ q q2 w, Gr W w → ∀ K : Act → World → Prop, (∀ v w', Gr w w' → T2 v w' → K (fw1 (fw1 a p1 q) p2 v) w') → wpOp P ops Q i2 K (fw1 (fw1 a p1 q) p2 q2) w)
    (next : ∀ b1 b2 q1 q2 w, Gr W w → (b1 = true → T1 q1 w) → (b2 = true → T2 q2 w) → (all = true → b1 = true) → wpOp P ops Q c (fun a' w' => S w' ∧ Any P md ops Q S ((F b1 b2).setIfInBounds c true) a' w') (fw1 (fw1 a p1 q1) p2 q2) w) : Any P md ops Q S l a W := by
  refine any_stage (fun l a' w => ∃ b1 b2 q1 q2, l = F b1 b2 ∧ a' = fw1 (fw1 a p1 q1) p2 q2 ∧ Gr W w ∧ (b1 = true → T1 q1 w) ∧ (b2 = true → T2 q2 w)) ?_ ⟨b1, b2, q1, q2, hl, ha.symm, Gr.refl W, h1, h2⟩
  rintro l a' w ⟨b1, b2, q1, q2, rfl, rfl, gr, h1, h2⟩
  obtain ⟨hne, hr⟩ := chkF2_spec hchk b1 b2
  refine ⟨hne, fun i hi => ?_⟩
  rcases hr i hi with ⟨rfl, e⟩ | ⟨rfl, e⟩ | ⟨rfl, e⟩
  · exact new1 q1 q2 w gr _ (fun v w' g t => ⟨hS _ (gr.trans g), .inl ⟨true, b2, v, q2, hF1 b1 b2, rfl, gr.trans g, fun _ => t, fun e => t2 _ _ _ (h2 e) g⟩⟩)
  · exact new2 q1 q2 w gr _ (fun v w' g t => ⟨hS _ (gr.trans g), .inl ⟨b1, true, q1, v, hF2 b1 b2, rfl, gr.trans g, fun e => t1 _ _ _ (h1 e) g, fun _ => t⟩⟩)
  · exact wpOp_mono (fun a' w' k => ⟨k.1, .inr k.2⟩) (next b1 b2 q1 q2 w gr h1 h2 e)
end
def Yl (u : World) (q : Value) (y : Int) : Prop := ∃ g, q = .slice (some ⟨g, 0, none⟩) 1 1 ∧ u.heap[g]? = some (.cells (kc [y]) 5 (0, 0))
theorem Yl.gr {u v : World} {q : Value} {y : Int} (h : Yl u q y) (k : Gr u v) : Yl v q y := by
  obtain ⟨g, h1, h2⟩ := h
  exact ⟨g, h1, k.blk h2⟩
def Kl (s : Nat) (u : World) (q : Value) : Prop := ∃ g, q = .pointer (some ⟨g, 0, none⟩) ∧ u.heap[g]? = some (.cells (kc Z32) 25 (0, 0)) ∧ s ≤ g
theorem Kl.gr {s : Nat} {u v : World} {q : Value} (h : Kl s u q) (k : Gr u v) : Kl s v q := by
  obtain ⟨g, h1, h2, h3⟩ := h
  exact ⟨g, h1, k.blk h2, h3⟩
def Rexp (K I : List Int) (n : Nat) (w : World) (r : Ending) (w' : World) : Prop := ∃ a c, r = .returned (.slice a n c) ∧ Lb w' a n c (spL K I n) ∧ Gr w w'
structure EI (w : World) (K I : List Int) (i : Nat) (a7 : Option Addr) (c7 : Nat) (a8 : Option Addr) (n8 c8 : Nat) (v : World) : Prop where
  la : Lb v a7 (32 * i) c7 (outT K I i)
  lb : Lb v a8 n8 c8 (lastT K I i)
  bk : v.heap[w.heap.size]? = some (.cells (kc K) 25 (0, 0))
  gr : Gr w v
theorem EI.more {w : World} {K I : List Int} {i : Nat} {a7 : Option Addr} {c7 : Nat} {a8 : Option Addr} {n8 c8 : Nat} {u v : World} (h : EI w K I i a7 c7 a8 n8 c8 u) (k : Gr u v) : EI w K I i a7 c7 a8 n8 c8 v :=
  ⟨h.la.gr k, h.lb.gr k, k.blk h.bk, h.gr.trans k⟩
set_option maxHeartbeats 4000000 in
theorem rexpand_ok (K : List Int) (hKl : K.length = 32) (hKb : IsB K) (I : List Int) (a : Option Addr) (ni ci : Nat) (n : Nat) (hn : n ≤ 8160) (hni : ni ≤ 900000) (w : World) (hI : Lb w a ni ci I) :
    Calls Tryd.prog 74 #[.agg (kc K), .slice a ni ci, .int .i64 n] w (Rexp K I n w) := by
  obtain ⟨T, hT⟩ : ∃ T, T = Rexp K I n w := ⟨_, rfl⟩
  rw [← hT]
  obtain ⟨KK, hKK⟩ : ∃ KK, KK = kc K := ⟨_, rfl⟩
  rw [← hKK]
  have hKs : KK.size = 32 := by rw [hKK, kc_size, hKl]
  replace hT := hide hT
  replace hI := hide hI
  replace hKK := hide hKK
  replace hKb := hide hKb
  go_enter Tryd.func74, Tryd.ntmps74
  go_upto_region 1 with fail
  have hB := (Bl.nil w).new KK 25
  simp only [List.nil_append] at hB
  generalize World.alloc _ _ = u1 at *
  have hS : Hid (EI w K I 0 none 0 none 0 0 u1) := ⟨Lb.nil _, Lb.nil _, (by rw [← unhide hKK]; exact hB.get 0 (x := ⟨w.heap.size, KK, 25⟩) rfl), hB.gr⟩
  clear hB
  go_wp2_with fail
  go_loopw [7, 8, 9] (fun x y z wr => ∃ (i : Nat) (a7 : Option Addr) (c7 : Nat) (a8 : Option Addr) (n8 c8 : Nat), i ≤ (n + 31) / 32 ∧ x = .slice a7 (32 * i) c7 ∧ y = .slice a8 n8 c8 ∧ z = .int .i64 ((i + 1 : Nat) : Int) ∧ Hid (EI w K I i a7 c7 a8 n8 c8 wr)) (fun x _ _ _ => n + 32 - slenV x)
  case atStart => exact ⟨0, none, 0, none, 0, 0, by omega, rfl, rfl, rfl, hS⟩
  case round =>
  clear hS
  obtain ⟨i, a7, c7, a8, n8, c8, hi, rfl, rfl, rfl, hS⟩ := hrel
  by_cases hl : 32 * i < n
  · have lI : 32 * (i : Int) < (n : Int) := by omega
    have e1 : IntKind.i64.wrap ((i : Int) + 1 + 1) = (i : Int) + 1 + 1 := by rw [IntKind.wrap_i64]; omega
    obtain ⟨y, hy⟩ : ∃ y : Int, y = (((i + 1) % 256 : Nat) : Int) := ⟨_, rfl⟩
    have e2 : IntKind.u8.wrap ((i : Int) + 1) = y := by rw [IntKind.wrap_u8', hy]; omega
    have hyb : 0 ≤ y ∧ y < 256 := by omega
    have h8 : n8 ≤ 32 := by
      have h1 : (lastT K I i).length ≤ 32 := by
        cases i with
        | zero => simp [lastT]
        | succ j => rw [lastT_len]; omega
      rw [← (unhide hS).lb.len]
      exact h1
    have hnx : Hid (hmacL K (lastT K I i ++ I ++ [y]) = lastT K I (i + 1)) := by
      rw [List.append_assoc, hy]
      exact rfl
    replace hy := hide hy
    go_upto_region 5 with fail
    refine any_start (S := fun _ => True) (by kernel_rfl) ?_
    replace hS := (unhide hS).more (Gr.refl _).drew
    generalize World.drew _ = W0 at *
    have hS0 := hide hS
    simp only [List.size_toArray, List.length_cons, List.length_nil, Array.replicate, List.replicate]
    refine any_take (i := 0) (v := (.slice (some ⟨w.heap.size, 0, none⟩) 32 32)) #[false, false, false, false, false, false, false, false, false, false, false] rfl (by kernel_rfl) (by kernel_rfl) (by kernel_rfl) (by kernel_rfl) (fun _ _ _ h => h) (.inl ⟨by kernel_rfl, fun x_ hu => by go_simp⟩) trivial ?_
    simp only [nrm]
    refine any_take (i := 1) (v := (.slice a8 n8 c8)) #[true, false, false, false, false, false, false, false, false, false, false] rfl (by kernel_rfl) (by kernel_rfl) (by kernel_rfl) (by kernel_rfl) (fun _ _ _ h => h) (.inl ⟨by kernel_rfl, fun x_ hu => by kernel_rfl⟩) trivial ?_
    simp only [nrm]
    refine any_take (i := 2) (v := (.slice a ni ci)) #[true, true, false, false, false, false, false, false, false, false, false] rfl (by kernel_rfl) (by kernel_rfl) (by kernel_rfl) (by kernel_rfl) (fun _ _ _ h => h) (.inl ⟨by kernel_rfl, fun x_ hu => by kernel_rfl⟩) trivial ?_
    simp only [nrm]
    refine any_take (i := 4) (v := (.int .i64 ((i + 1 : Nat) : Int))) #[true, true, true, false, false, false, false, false, false, false, false] rfl (by kernel_rfl) (by kernel_rfl) (by kernel_rfl) (by kernel_rfl) (fun _ _ _ h => h) (.inl ⟨by kernel_rfl, fun x_ hu => by kernel_rfl⟩) trivial ?_
    simp only [nrm]
    refine any_take (i := 5) (v := (.int .u8 y)) #[true, true, true, false, true, false, false, false, false, false, false] rfl (by kernel_rfl) (by kernel_rfl) (by kernel_rfl) (by kernel_rfl) (fun _ _ _ h => h) (.inl ⟨by kernel_rfl, fun x_ hu => by go_simp⟩) trivial ?_
    simp only [nrm]
    refine float2 (fun q u => Yl u q y) (fun q u => Kl W0.heap.size u q) 23 10 (fun b_ d_ => #[true, true, true, false, true, true, b_, false, false, d_, false]) 6 9 3 false (b1 := false) (b2 := false) (q1 := u23) (q2 := u10) rfl rfl (fun e => by cases e) (fun e => by cases e) (fun _ _ _ h k => h.gr k) (fun _ _ _ h k => h.gr k) (fun _ _ => trivial) (by kernel_rfl) (fun b_ d_ => by cases b_ <;> cases d_ <;> rfl) (fun b_ d_ => by cases b_ <;> cases d_ <;> rfl) ?_ ?_ ?_
    all_goals simp only [fw1, Act.put, List.setIfInBounds_toArray, List.set_cons_zero, List.set_cons_succ, List.getElem_toArray, List.getElem_cons_zero, List.getElem_cons_succ]
    · intro q_ p_ x_ hgx K hK
      refine wpOp_step (o := _) rfl (fun K' hK' => ?_)
      refine step_val (.slice (some ⟨x_.heap.size, 0, none⟩) 1 1) (x_.alloc (.cells (kc [y]) 5 (0, 0))) (by kernel_rfl) (by kernel_rfl) ?_
      exact hK' _ _ (hK _ _ ((Gr.refl _).alloc _) ⟨_, rfl, blk_new _ _⟩)
    · intro q_ p_ x_ hgx K hK
      refine wpOp_step (o := _) rfl (fun K' hK' => ?_)
      refine step_val (.pointer (some ⟨x_.heap.size, 0, none⟩)) (x_.alloc (.cells (kc Z32) 25 (0, 0))) (by kernel_rfl) (by kernel_rfl) ?_
      exact hK' _ _ (hK _ _ ((Gr.refl _).alloc _) ⟨_, rfl, blk_new _ _, hgx.size⟩)
    intro b1 b2 q1 q2 x1 hg h1 h2 _
    have hG0 := hg
    replace hS := hS.more hg
    clear hg
    refine wpOp_step (o := _) rfl (fun Kc hK => ?_)
    refine step_callw (by kernel_rfl) 93 #[.slice a8 n8 c8, .slice a ni ci] (by kernel_rfl) ((both_ok (lastT K I i) I a8 a n8 c8 ni ci (by omega) _ hS.lb ((unhide hI).gr hS.gr)).mono ?_)
    rintro r x2 ⟨v2, rfl, hO, hg⟩
    refine ⟨_, rfl, ?_⟩
    obtain ⟨a2, c2, rfl, l2⟩ := hO.lb (isB_append (lastT_isB _ _ _) (unhide hI).isB)
    have hl2 : (lastT K I i ++ I).length = n8 + ni := by rw [List.length_append, hS.lb.len, (unhide hI).len]
    rw [hl2] at l2
    rw [hl2]
    replace h1 : b1 = true → Yl x2 q1 y := fun e => (h1 e).gr hg
    replace h2 : b2 = true → Kl W0.heap.size x2 q2 := fun e => (h2 e).gr hg
    replace hS := hS.more hg
    replace hG0 := hG0.trans hg
    clear hg hO hl2
    refine hK _ _ ⟨trivial, ?_⟩
    clear hK Kc
    simp only [nrm]
    refine float2 (fun q u => Yl u q y) (fun q u => Kl W0.heap.size u q) 23 10 (fun b_ d_ => #[true, true, true, true, true, true, b_, false, false, d_, false]) 6 9 7 true (b1 := b1) (b2 := b2) (q1 := q1) (q2 := q2) rfl rfl h1 h2 (fun _ _ _ h k => h.gr k) (fun _ _ _ h k => h.gr k) (fun _ _ => trivial) (by kernel_rfl) (fun b_ d_ => by cases b_ <;> cases d_ <;> rfl) (fun b_ d_ => by cases b_ <;> cases d_ <;> rfl) ?_ ?_ ?_
    all_goals simp only [fw1, Act.put, List.setIfInBounds_toArray, List.set_cons_zero, List.set_cons_succ, List.getElem_toArray, List.getElem_cons_zero, List.getElem_cons_succ]
    · intro q_ p_ x_ hgx K hK
      refine wpOp_step (o := _) rfl (fun K' hK' => ?_)
      refine step_val (.slice (some ⟨x_.heap.size, 0, none⟩) 1 1) (x_.alloc (.cells (kc [y]) 5 (0, 0))) (by kernel_rfl) (by kernel_rfl) ?_
      exact hK' _ _ (hK _ _ ((Gr.refl _).alloc _) ⟨_, rfl, blk_new _ _⟩)
    · intro q_ p_ x_ hgx K hK
      refine wpOp_step (o := _) rfl (fun K' hK' => ?_)
      refine step_val (.pointer (some ⟨x_.heap.size, 0, none⟩)) (x_.alloc (.cells (kc Z32) 25 (0, 0))) (by kernel_rfl) (by kernel_rfl) ?_
      exact hK' _ _ (hK _ _ ((Gr.refl _).alloc _) ⟨_, rfl, blk_new _ _, Nat.le_trans hG0.size hgx.size⟩)
    clear h1 h2
    intro b1 b2 q1 q2 x3 hg h1 h2 hall
    obtain rfl : b1 = true := hall (by trivial)
    obtain ⟨g1, rfl, hc1⟩ := h1 rfl
    clear hall h1
    replace hG0 := hG0.trans hg
    replace hS := hS.more hg
    replace l2 := l2.gr hg
    clear hg
    refine wpOp_step (o := _) rfl (fun Kc hK => ?_)
    refine step_callw (by kernel_rfl) 93 #[.slice a2 (n8 + ni) c2, .slice (some ⟨g1, 0, none⟩) 1 1] (by kernel_rfl) ((both_ok (lastT K I i ++ I) [y] a2 (some ⟨g1, 0, none⟩) (n8 + ni) c2 1 1 (by omega) _ l2 ⟨rfl, (by intro x hx; simp at hx; subst hx; exact hyb), .inr ⟨_, 0, rfl, kc_at hc1⟩, by omega, by omega⟩).mono ?_)
    rintro r x4 ⟨v4, rfl, hO, hg⟩
    refine ⟨_, rfl, ?_⟩
    obtain ⟨a4, c4, rfl, l4⟩ := hO.lb (isB_append l2.isB (by intro x hx; simp at hx; subst hx; exact hyb))
    have hl4 : (lastT K I i ++ I ++ [y]).length = n8 + ni + 1 := by rw [List.length_append, l2.len]; rfl
    rw [hl4] at l4
    rw [hl4]
    replace h2 : b2 = true → Kl W0.heap.size x4 q2 := fun e => (h2 e).gr hg
    replace hS := hS.more hg
    replace hG0 := hG0.trans hg
    clear hg hO hl4 l2 hc1
    refine hK _ _ ⟨trivial, ?_⟩
    clear hK Kc
    simp only [nrm]
    refine float_again (fun q u => Kl W0.heap.size u q) 10 (fun b_ => #[true, true, true, true, true, true, true, true, false, b_, false]) 9 8 false (b := b2) (q := q2) rfl rfl h2 (fun _ _ => trivial) (by kernel_rfl) (fun b_ => by cases b_ <;> rfl) ?_ ?_
    all_goals simp only [fw1, Act.put, List.setIfInBounds_toArray, List.set_cons_zero, List.set_cons_succ, List.getElem_toArray, List.getElem_cons_zero, List.getElem_cons_succ]
    · intro q_ x_ hgx K hK
      refine wpOp_step (o := _) rfl (fun K' hK' => ?_)
      refine step_val (.pointer (some ⟨x_.heap.size, 0, none⟩)) (x_.alloc (.cells (kc Z32) 25 (0, 0))) (by kernel_rfl) (by kernel_rfl) ?_
      exact hK' _ _ (hK _ _ ((Gr.refl _).alloc _) ⟨_, rfl, blk_new _ _, Nat.le_trans hG0.size hgx.size⟩)
    clear h2
    intro b2 q2 x5 hg h2 _
    replace hG0 := hG0.trans hg
    replace hS := hS.more hg
    replace l4 := l4.gr hg
    clear hg
    refine wpOp_step (o := _) rfl (fun Kc hK => ?_)
    refine step_callw (by kernel_rfl) 92 #[.slice (some ⟨w.heap.size, 0, none⟩) 32 32, .slice a4 (n8 + ni + 1) c4] (by kernel_rfl) ((rhmac_ok K (lastT K I i ++ I ++ [y]) (some ⟨w.heap.size, 0, none⟩) a4 32 32 (n8 + ni + 1) c4 (by omega) (by omega) _ ⟨hKl, unhide hKb, .inr ⟨_, 0, rfl, kc_at hS.bk⟩, by omega, by omega⟩ l4).mono ?_)
    rintro r x6 ⟨rfl, hg⟩
    refine ⟨_, rfl, ?_⟩
    rw [unhide hnx]
    obtain ⟨M, hM⟩ : ∃ M, M = lastT K I (i + 1) := ⟨_, rfl⟩
    have hMl : M.length = 32 := by rw [hM]; exact lastT_len _ _ _
    have hMb : IsB M := by rw [hM]; exact lastT_isB _ _ _
    rw [← hM]
    replace hM := hide hM
    replace hMb := hide hMb
    replace h2 : b2 = true → Kl W0.heap.size x6 q2 := fun e => (h2 e).gr hg
    replace hS := hS.more hg
    replace hG0 := hG0.trans hg
    clear hg l4
    refine hK _ _ ⟨trivial, ?_⟩
    clear hK Kc
    simp only [nrm]
    refine float_again (fun q u => Kl W0.heap.size u q) 10 (fun b_ => #[true, true, true, true, true, true, true, true, true, b_, false]) 9 10 true (b := b2) (q := q2) rfl rfl h2 (fun _ _ => trivial) (by kernel_rfl) (fun b_ => by cases b_ <;> rfl) ?_ ?_
    all_goals simp only [fw1, Act.put, List.setIfInBounds_toArray, List.set_cons_zero, List.set_cons_succ, List.getElem_toArray, List.getElem_cons_zero, List.getElem_cons_succ]
    · intro q_ x_ hgx K hK
      refine wpOp_step (o := _) rfl (fun K' hK' => ?_)
      refine step_val (.pointer (some ⟨x_.heap.size, 0, none⟩)) (x_.alloc (.cells (kc Z32) 25 (0, 0))) (by kernel_rfl) (by kernel_rfl) ?_
      exact hK' _ _ (hK _ _ ((Gr.refl _).alloc _) ⟨_, rfl, blk_new _ _, Nat.le_trans hG0.size hgx.size⟩)
    clear h2
    intro b2 q2 x7 hg h2 hall
    obtain rfl : b2 = true := hall (by trivial)
    obtain ⟨gt, rfl, hct, hgt⟩ := h2 rfl
    clear hall h2
    replace hG0 := hG0.trans hg
    replace hS := hS.more hg
    clear hg
    have hL : Bl W0 [⟨gt, kc Z32, 25⟩] x7 := (Bl.nil W0).join hG0 [⟨gt, kc Z32, 25⟩] (fun x hx => by simp at hx; subst hx; exact ⟨hct, hgt⟩) (List.pairwise_singleton _ _)
    refine wpOp_step (o := _) rfl (fun Kc hK => ?_)
    rw [if_pos (by kernel_rfl)]
    refine wp_store_row 25 (.tmp 10) (.tmp 25) rfl gt (kc M) (by kernel_rfl) (by kernel_rfl) 25 (kc Z32) hct (by rw [Tryd.infoKey, kc_size, hMl]) ((show (kc Z32).size = 32 from rfl).trans ((kc_size _).trans hMl).symm) (kc_one _) ?_
    replace hL := hL.set 0 (x := ⟨gt, kc Z32, 25⟩) rfl (kc M)
    simp only [List.set_cons_zero, List.set_cons_succ] at hL
    refine hK _ _ ⟨trivial, ?_⟩
    clear hK Kc
    generalize World.setRow _ _ _ = x8 at *
    simp only [nrm]
    refine any_done (by kernel_rfl) ?_
    have hct2 := hL.get 0 (x := ⟨gt, kc M, 25⟩) rfl
    replace hS := hide ((unhide hS0).more hL.gr)
    have lm : Hid (Lb x8 (some ⟨gt, 0, none⟩) 32 32 M) := ⟨hMl, unhide hMb, .inr ⟨_, 0, rfl, kc_at hct2⟩, by omega, by omega⟩
    clear hct2 hct hL hG0 hS0 hgt
    go_upto_region 6 with fail
    refine wp_region_lit ?_
    iterate 1 (refine wpList_step fun K hK => ?_; replace hK := hide hK; go_simp; refine unhide hK _ _ ?_; clear hK K)
    refine list_call 93 #[.slice (some ⟨gt, 0, none⟩) 32 32, .slice none 0 0] (by kernel_rfl) (by kernel_rfl) ((both_ok M [] (some ⟨gt, 0, none⟩) none 32 32 0 0 (by omega) _ (unhide lm) (Lb.nil _)).mono ?_)
    rintro r x9 ⟨v9, rfl, hO, hg⟩
    refine ⟨_, rfl, ?_⟩
    rw [List.append_nil] at hO
    obtain ⟨a9, c9, rfl, l9⟩ := hO.lb (unhide hMb)
    rw [hMl] at l9
    rw [hMl]
    replace hS := hide ((unhide hS).more hg)
    replace l9 := hide l9
    clear lm hO hg
    simp only [nrm]
    iterate 1 (refine wpList_step fun K hK => ?_; replace hK := hide hK; go_simp; refine unhide hK _ _ ?_; clear hK K)
    refine wpList_nil ?_
    go_upto_region 7 with fail
    refine wp_region_lit ?_
    iterate 2 (refine wpList_step fun K hK => ?_; replace hK := hide hK; go_simp; refine unhide hK _ _ ?_; clear hK K)
    refine list_call 93 #[.slice a7 (32 * i) c7, .slice a9 32 c9] (by kernel_rfl) (by kernel_rfl) ((both_ok (outT K I i) M a7 a9 (32 * i) c7 32 c9 (by omega) _ (unhide hS).la (unhide l9)).mono ?_)
    rintro r y1 ⟨v10, rfl, hO, hg⟩
    refine ⟨_, rfl, ?_⟩
    obtain ⟨a10, c10, rfl, l10⟩ := hO.lb (isB_append (outT_isB _ _ _) (unhide hMb))
    have hl10 : (outT K I i ++ M).length = 32 * (i + 1) := by rw [List.length_append, outT_len, hMl]; omega
    rw [hl10] at l10
    rw [hl10]
    replace hS := (unhide hS).more hg
    have hE : Hid (EI w K I (i + 1) a10 c10 a9 32 c9 y1) := ⟨by rw [outT, ← unhide hM]; exact l10, by rw [← unhide hM]; exact (unhide l9).gr hg, hS.bk, hS.gr⟩
    clear hS hO hg l9 l10 hl10
    simp only [nrm]
    iterate 1 (refine wpList_step fun K hK => ?_; replace hK := hide hK; go_simp; refine unhide hK _ _ ?_; clear hK K)
    refine wpList_nil ?_
    go_wp2_with fail
    go_roundw
    case rel => exact ⟨i + 1, a10, c10, a9, 32, c9, by omega, rfl, rfl, by go_num, hE⟩
    case measure => simp [slenV]; omega
  · have lI : ¬ 32 * (i : Int) < (n : Int) := by omega
    have hlt : n ≤ 32 * i := by omega
    have hsp : Hid ((outT K I i).take n = spL K I n) := spL_of K I n i hlt
    have hnc : n ≤ c7 := by have := (unhide hS).la.cap; omega
    go_upto_region 8 with fail
    refine wp_region_lit ?_
    iterate 3 (refine wpList_step fun K hK => ?_; replace hK := hide hK; go_simp; refine unhide hK _ _ ?_; clear hK K)
    have lc := Sl.cutl (unhide hS).la n hlt
    rw [unhide hsp] at lc
    refine list_call 93 #[.slice a7 n c7, .slice none 0 0] (by kernel_rfl) (by kernel_rfl) ((both_ok (spL K I n) [] a7 none n c7 0 0 (by omega) _ lc (Lb.nil _)).mono ?_)
    rintro r y1 ⟨v1, rfl, hO, hg⟩
    refine ⟨_, rfl, ?_⟩
    rw [List.append_nil] at hO
    obtain ⟨a1, c1, rfl, l1⟩ := hO.lb (spL_isB _ _ _)
    rw [spL_len] at l1
    rw [spL_len]
    have hP : Hid (Rexp K I n w (.returned (.slice a1 n c1)) y1) := ⟨a1, c1, rfl, l1, (unhide hS).gr.trans hg⟩
    clear hS hg hO l1 lc
    simp only [nrm]
    iterate 1 (refine wpList_step fun K hK => ?_; replace hK := hide hK; go_simp; refine unhide hK _ _ ?_; clear hK K)
    refine wpList_nil ?_
    go_wp2_with fail
    rw [unhide hT]
    exact unhide hP
set_option maxHeartbeats 2000000 in
theorem rlow_ok (X : Nat) (hX : X < 4294967296) (w : World) : Calls Tryd.prog 94 #[.int .u64 X, .int .i64 4] w (Putd [] X 0 w) := by
  obtain ⟨T, hT⟩ : ∃ T, T = Putd [] X 0 w := ⟨_, rfl⟩
  rw [← hT]
  replace hT := hide hT
  go_enter Tryd.func94, Tryd.ntmps94
  go_upto_region 1 with fail
  refine wp_region_lit ?_
  iterate 1 (refine wpList_step fun K hK => ?_; replace hK := hide hK; go_simp; refine unhide hK _ _ ?_; clear hK K)
  refine wpList_make_room w rfl (.tmp 7) (.tmp 7) rfl 4 4 4 4 (by kernel_rfl) (by kernel_rfl) (by omega) (by omega) (by omega) (by omega) ?_
  have hv := blk_new w (.cells (kc (List.replicate 4 0)) 5 (0, 0))
  have hg := (Gr.refl w).alloc (.cells (kc (List.replicate 4 0)) 5 (0, 0))
  generalize World.alloc _ _ = u1 at *
  simp only [nrm]
  replace hv : Hid (u1.heap[w.heap.size]? = some (.cells (kc (lwz [] X 0)) 5 (0, 0))) := hv
  replace hg := hide hg
  iterate 1 (refine wpList_step fun K hK => ?_; replace hK := hide hK; go_simp; refine unhide hK _ _ ?_; clear hK K)
  refine wpList_nil ?_
  go_wp2_with fail
  go_loopw [6, 0] (fun i x wr => ∃ k : Nat, k ≤ 4 ∧ i = .int .i64 (k : Int) ∧ x = .int .u64 ((X / 256 ^ k : Nat) : Int) ∧ Hid (wr.heap[w.heap.size]? = some (.cells (kc (lwz [] X k)) 5 (0, 0))) ∧ Hid (Gr w wr)) (fun i _ _ => 4 - (intOf i).toNat)
  case atStart => exact ⟨0, by omega, rfl, by simp, hv, hg⟩
  case round =>
  clear hv hg
  obtain ⟨k, hk, rfl, rfl, hv, hg⟩ := hrel
  by_cases hlt : k < 4
  · obtain ⟨Y, hY⟩ : ∃ Y, Y = X / 256 ^ k := ⟨_, rfl⟩
    obtain ⟨y, hy⟩ : ∃ y : Int, y = ((Y % 256 : Nat) : Int) := ⟨_, rfl⟩
    have hYb : Y < 4294967296 := by rw [hY]; exact Nat.lt_of_le_of_lt (Nat.div_le_self _ _) hX
    have q1 : (k : Int) < 4 := by omega
    have q3 : 0 ≤ (k : Int) ∧ (k : Int) < 4 := by omega
    have q4 : IntKind.i64.wrap ((k : Int) + 1) = (k : Int) + 1 := by rw [IntKind.wrap_i64]; omega
    obtain ⟨Z, hZ⟩ : ∃ Z, Z = X / 256 ^ (k + 1) := ⟨_, rfl⟩
    have e2 : (Y : Int) / 256 = (Z : Int) := by rw [hZ, hY, Nat.pow_succ, ← Nat.div_div_eq_div_mul]; omega
    have e3 : (Y : Int).tdiv 256 = (Z : Int) := by rw [Int.tdiv_eq_ediv_of_nonneg (by omega)]; exact e2
    have e4 : (Y : Int).tmod 256 = y := by rw [Int.tmod_eq_emod_of_nonneg (by omega), hy]; omega
    have e5 : (Y : Int) % 256 = y := by rw [hy]; omega
    have e6 : IntKind.u64.wrap y = y := by rw [IntKind.wrap_u64]; omega
    have e7 : IntKind.u8.wrap y = y := by rw [IntKind.wrap_u8']; omega
    have e8 : IntKind.u64.wrap (Z : Int) = (Z : Int) := by rw [IntKind.wrap_u64]; omega
    have cs := kc_cell (unhide hv) k (by rw [lwz_len _ _ _ (by omega)]; simp; omega)
    have fs := froz_of (i := k) (unhide hv)
    have hv2 := heap_setCell_same wr w.heap.size k _ _ (.int .u8 y) (unhide hv)
    rw [kc_set] at hv2
    have hnx : (lwz [] X k).set k y = lwz [] X (k + 1) := by
      have := lwz_next [] X k hlt
      rw [List.length_nil, Nat.zero_add] at this
      rw [hy, hY]
      exact this
    rw [hnx] at hv2
    have hg2 := (setCells_bt [.int .u8 y] wr w.heap.size k).gr (unhide hg) (Nat.le_refl _)
    replace hg2 : Hid (Gr w (wr.setCell ⟨w.heap.size, k, none⟩ (.int .u8 y))) := hg2
    replace hv2 := hide hv2
    rw [← hY]
    generalize (lwz [] X k).getD k 0 = old at cs
    clear hnx
    replace hY := hide hY
    replace hy := hide hy
    replace hZ := hide hZ
    go_wp2_with fail
    go_roundw
    case rel => exact ⟨k + 1, by omega, by go_num, by rw [unhide hZ], hv2, hg2⟩
    case measure => simp [intOf]; omega
  · have e : k = 4 := by omega
    subst e
    have hP : Hid (Putd [] X 0 w (.returned (.slice (some ⟨w.heap.size, 0, none⟩) 4 4)) wr) := ⟨_, rfl, Nat.le_refl _, by rw [← lwz_all]; exact unhide hv, unhide hg⟩
    clear hlt hv hg
    go_wp2_with fail
    rw [unhide hT]
    exact unhide hP
theorem conv_text (w : World) (t : ByteArray) (ht : t.size ≤ 1000) : ∃ c w', (convert 9 33 (.string t)).run Tryd.prog w = .ok (.slice (some ⟨w.heap.size, 0, none⟩) t.size c) w' ∧ Lb w' (some ⟨w.heap.size, 0, none⟩) t.size c (tb t) ∧ Gr w w' := by
  refine ⟨_, _, run_bytes_of_string w 9 33 5 t Tryd.underlying9 Tryd.underlying33 Tryd.underlying5, ⟨tb_len t, tb_isB t, .inr ⟨_, 0, rfl, fun j hj => ?_⟩, grownCap_ge _ _ _ _, ?_⟩, (Gr.refl w).drew.alloc _⟩
  · rw [tb_len] at hj
    rw [Nat.zero_add]
    refine cell_of (blk_new w.drew _) ?_
    have hj2 : j < t.data.size := hj
    unfold bytesRow tb
    rw [Array.getElem?_append_left (by simpa using hj2)]
    simp [hj2, Array.getElem?_eq_getElem hj2]
  · have := grownCap_le_maxLen w t.size 0 5 (by unfold maxLen; omega)
    unfold maxLen at this
    omega
theorem exec_conv {P : Program} {o : Oper} {a : Act} {w w' : World} {s d : TypeId} (x : Operand) (ho : o.op = .convert s d x) (v r : Value) (hx : a.eval x = v) (h : (convert s d v).run P w = .ok r w') : (execOp a.eval o).run P w = .ok (.value r) w' := by
  simp [execOp, ho, hx, h]
def Rinf (L : List Int) (w : World) (r : Ending) (w' : World) : Prop := ∃ a n c, r = .returned (.slice a n c) ∧ Lb w' a n c L ∧ Gr w w'
set_option maxHeartbeats 2000000 in
theorem rinfo_ok (t : ByteArray) (ht : t.size ≤ 1000) (ps : List (List Int)) (ap : Option Addr) (m cp : Nat) (hm : ps.length = m) (hp : small4 ps) (w : World) (hP : Pr w ap ps) : Calls Tryd.prog 75 #[.string t, .slice ap m cp] w (Rinf (infoL (tb t) ps) w) := by
  obtain ⟨T, hT⟩ : ∃ T, T = Rinf (infoL (tb t) ps) w := ⟨_, rfl⟩
  rw [← hT]
  have hmb : m ≤ 100 := by rw [← hm]; exact hp.1
  have htl : (tb t).length ≤ 1000 := by rw [tb_len]; exact ht
  have e1 : IntKind.u64.wrap (t.size : Int) = (t.size : Int) := by rw [IntKind.wrap_u64]; omega
  replace hT := hide hT
  replace hP := hide hP
  replace hp := hide hp
  replace hm := hide hm
  replace htl := hide htl
  go_enter Tryd.func75, Tryd.ntmps75
  go_upto_region 1 with fail
  refine wp_region_lit ?_
  iterate 3 (refine wpList_step fun K hK => ?_; replace hK := hide hK; go_simp; refine unhide hK _ _ ?_; clear hK K)
  refine list_call 94 #[.int .u64 t.size, .int .i64 4] (by kernel_rfl) (by kernel_rfl) ((rlow_ok t.size (by omega) _).mono ?_)
  rintro r u1 ⟨g, rfl, h1, h2, hg⟩
  refine ⟨_, rfl, ?_⟩
  rw [List.nil_append] at h2
  have hl1 : Hid (Lb u1 (some ⟨g, 0, none⟩) 4 4 (lw t.size 4)) := ⟨lw_len _ _, lw_isB _ _, .inr ⟨g, 0, rfl, kc_at h2⟩, by omega, by omega⟩
  replace hg := hide hg
  clear h1 h2
  simp only [nrm]
  iterate 1 (refine wpList_step fun K hK => ?_; replace hK := hide hK; go_simp; refine unhide hK _ _ ?_; clear hK K)
  obtain ⟨c2, u2, hrun, hl2, hg2⟩ := conv_text u1 t ht
  refine list_valw (.slice (some ⟨u1.heap.size, 0, none⟩) t.size c2) u2 (by kernel_rfl) (exec_conv (.tmp 11) rfl (.string t) _ (by kernel_rfl) hrun) ?_
  replace hl1 := (unhide hl1).gr hg2
  have hG := (unhide hg).trans hg2
  clear hg hrun hg2
  simp only [nrm]
  refine list_call 93 #[.slice (some ⟨g, 0, none⟩) 4 4, .slice (some ⟨u1.heap.size, 0, none⟩) t.size c2] (by kernel_rfl) (by kernel_rfl) ((both_ok (lw t.size 4) (tb t) (some ⟨g, 0, none⟩) (some ⟨u1.heap.size, 0, none⟩) 4 4 t.size c2 (by omega) _ hl1 hl2).mono ?_)
  rintro r u3 ⟨v3, rfl, hO, hg⟩
  refine ⟨_, rfl, ?_⟩
  obtain ⟨a3, c3, rfl, l3⟩ := hO.lb (isB_append (lw_isB _ _) (tb_isB _))
  have e3 : infL (tb t) ps 0 = lw t.size 4 ++ tb t := by unfold infL tpart; rw [tb_len]; simp
  rw [← e3] at l3
  rw [← e3]
  obtain ⟨n3, hn3⟩ : ∃ n3, n3 = (infL (tb t) ps 0).length := ⟨_, rfl⟩
  rw [← hn3] at l3
  rw [← hn3]
  replace l3 := hide l3
  replace hG := hide (hG.trans hg)
  clear hl1 hl2 hO hg e3 hn3
  simp only [nrm]
  iterate 1 (refine wpList_step fun K hK => ?_; replace hK := hide hK; go_simp; refine unhide hK _ _ ?_; clear hK K)
  refine wpList_nil ?_
  go_wp2_with fail
  go_loopw [5, 6] (fun x i wr => ∃ (k n : Nat) (a : Option Addr) (c : Nat), k ≤ m ∧ i = .int .i64 k ∧ x = .slice a n c ∧ Hid (Lb wr a n c (infL (tb t) ps k)) ∧ Hid (Gr w wr)) (fun _ i _ => m - (intOf i).toNat)
  case atStart => exact ⟨0, n3, a3, c3, by omega, rfl, rfl, l3, hG⟩
  case round =>
  clear l3 hG
  obtain ⟨k, n, a, c, hk, rfl, rfl, hO, hG⟩ := hrel
  by_cases hl : k < m
  · have kI : (k : Int) < (m : Int) := by omega
    obtain ⟨p, o, rfl, hq⟩ : ∃ p o, ap = some ⟨p, o, none⟩ ∧ Pq w p o ps := by
      rcases (unhide hP) with h | ⟨p, o, h1, h2⟩
      · have := unhide hm; rw [h] at this; simp at this; omega
      · exact ⟨p, o, h1, h2⟩
    obtain ⟨aP, nP, cP, cc0, hPl, hPb, hPs, hPc, hPm⟩ := hq k (by rw [unhide hm]; exact hl)
    have cc := (unhide hG).cell cc0
    clear hq
    have hnx := hide (infL_next (tb t) ps k (by rw [unhide hm]; exact hl))
    have hPs4 : (ps.getD k []).length ≤ 4096 := (unhide hp).2 _ (by rw [List.getD_eq_getElem?_getD, List.getElem?_eq_getElem (by rw [unhide hm]; exact hl)]; exact List.getElem_mem _)
    have hlen := infL_len (tb t) ps (unhide htl) (unhide hp) k (by rw [unhide hm]; omega)
    rw [(unhide hO).len] at hlen
    generalize ps.getD k [] = P at *
    have hPI : nP ≤ 4096 := by omega
    have hLP : Hid (Lb w aP nP cP P) := ⟨hPl, hPb, hPs, hPc, hPm⟩
    have e2 : IntKind.u64.wrap (nP : Int) = (nP : Int) := by rw [IntKind.wrap_u64]; omega
    clear hPs hPb hPs4 hPc hPm
    replace hPl := hide hPl
    go_upto_region 5 with fail
    refine wp_region_lit ?_
    iterate 7 (refine wpList_step fun K hK => ?_; replace hK := hide hK; go_simp; refine unhide hK _ _ ?_; clear hK K)
    refine list_call 94 #[.int .u64 nP, .int .i64 4] (by kernel_rfl) (by kernel_rfl) ((rlow_ok nP (by omega) _).mono ?_)
    rintro r v1 ⟨g1, rfl, h1, h2, hg⟩
    refine ⟨_, rfl, ?_⟩
    rw [List.nil_append] at h2
    have hl1 : Lb v1 (some ⟨g1, 0, none⟩) 4 4 (lw nP 4) := ⟨lw_len _ _, lw_isB _ _, .inr ⟨g1, 0, rfl, kc_at h2⟩, by omega, by omega⟩
    replace hO := (unhide hO).gr hg
    replace hG := (unhide hG).trans hg
    replace cc := hg.cell cc
    clear hg h1 h2
    simp only [nrm]
    refine list_call 93 #[.slice a n c, .slice (some ⟨g1, 0, none⟩) 4 4] (by kernel_rfl) (by kernel_rfl) ((both_ok (infL (tb t) ps k) (lw nP 4) a (some ⟨g1, 0, none⟩) n c 4 4 (by omega) _ hO hl1).mono ?_)
    rintro r v2 ⟨x2, rfl, hO2, hg⟩
    refine ⟨_, rfl, ?_⟩
    obtain ⟨a2, c2', rfl, l2⟩ := hO2.lb (isB_append hO.isB (lw_isB _ _))
    have hl2 : (infL (tb t) ps k ++ lw nP 4).length = n + 4 := by rw [List.length_append, lw_len, hO.len]
    rw [hl2] at l2
    rw [hl2]
    replace l2 := hide l2
    replace hG := hide (hG.trans hg)
    replace cc := hg.cell cc
    clear hg hO hO2 hl1 hl2
    simp only [nrm]
    iterate 1 (refine wpList_step fun K hK => ?_; replace hK := hide hK; go_simp; refine unhide hK _ _ ?_; clear hK K)
    refine wpList_nil ?_
    go_upto_region 6 with fail
    refine wp_region_lit ?_
    iterate 5 (refine wpList_step fun K hK => ?_; replace hK := hide hK; go_simp; refine unhide hK _ _ ?_; clear hK K)
    refine list_call 93 #[.slice a2 (n + 4) c2', .slice aP nP cP] (by kernel_rfl) (by kernel_rfl) ((both_ok (infL (tb t) ps k ++ lw nP 4) P a2 aP (n + 4) c2' nP cP (by omega) _ (unhide l2) ((unhide hLP).gr (unhide hG))).mono ?_)
    rintro r v3 ⟨x3, rfl, hO3, hg⟩
    refine ⟨_, rfl, ?_⟩
    have e5 : infL (tb t) ps k ++ lw nP 4 ++ P = infL (tb t) ps (k + 1) := by
      rw [unhide hnx]
      unfold tpart
      rw [unhide hPl, ← List.append_assoc]
    have hb5 := isB_append (unhide l2).isB (unhide hLP).isB
    rw [e5] at hO3 hb5
    obtain ⟨a5, c5, rfl, l5⟩ := hO3.lb hb5
    obtain ⟨n5, hn5⟩ : ∃ n5, n5 = (infL (tb t) ps (k + 1)).length := ⟨_, rfl⟩
    rw [← hn5] at l5
    rw [← hn5]
    replace l5 := hide l5
    replace hG := hide ((unhide hG).trans hg)
    clear hg hO3 l2 hn5 e5 hb5
    simp only [nrm]
    iterate 1 (refine wpList_step fun K hK => ?_; replace hK := hide hK; go_simp; refine unhide hK _ _ ?_; clear hK K)
    refine wpList_nil ?_
    clear cc cc0
    go_wp2_with fail
    go_roundw
    case rel => exact ⟨k + 1, n5, a5, c5, by omega, by go_num, rfl, l5, hG⟩
    case measure => simp [intOf]; omega
  · have e : k = m := by omega
    subst e
    have hPd : Hid (Rinf (infoL (tb t) ps) w (.returned (.slice a n c)) wr) := ⟨a, n, c, rfl, by unfold infoL; rw [unhide hm]; exact unhide hO, unhide hG⟩
    clear hO hG
    go_wp2_with fail
    rw [unhide hT]
    exact unhide hPd
end Go.Proofs.YtpmgmpihmpifgaaDoor
/-
  The document's labelled pair.
-/
namespace Go.Proofs.YtpmgmpihmpifgaaDoor
open Go.RowKit
set_option maxRecDepth 100000
set_option linter.unusedSimpArgs false
set_option linter.unusedVariables false
theorem Sl.other {v : World} {a : Option Addr} {D : List Int} {g : Nat} (vs : List Value) (h : Sl v a D) (hf : ∀ x, a = some x → x.block ≠ g) : Sl (v.setCells g 0 vs) a D := by
  rcases h with h | ⟨p, o, h1, h2⟩
  · exact .inl h
  · have hp := hf _ h1
    exact .inr ⟨p, o, h1, fun j hj => (setCells_bt vs v g 0).cell (h2 j hj) hp⟩
set_option maxHeartbeats 2000000 in
theorem rtwo_ok (Ky : List Int) (hKl : Ky.length = 32) (hKb : IsB Ky) (t : ByteArray) (ht : t.size ≤ 1000) (ps : List (List Int)) (ap : Option Addr) (m cp : Nat) (hm : ps.length = m) (hp : small4 ps) (w : World) (hF : Fst w) (hP : Pr w ap ps) :
    Calls Tryd.prog 59 #[.agg (kc Ky), .string t, .slice ap m cp] w (Twod ((spL Ky (infoL (tb t) ps) 64).take 32) ((spL Ky (infoL (tb t) ps) 64).drop 32) w) := by
  obtain ⟨T, hT⟩ : ∃ T, T = Twod ((spL Ky (infoL (tb t) ps) 64).take 32) ((spL Ky (infoL (tb t) ps) 64).drop 32) w := ⟨_, rfl⟩
  rw [← hT]
  obtain ⟨KK, hKK⟩ : ∃ KK, KK = kc Ky := ⟨_, rfl⟩
  rw [← hKK]
  have hKs : KK.size = 32 := by rw [hKK, kc_size, hKl]
  have hIb : IsB (infoL (tb t) ps) := infoL_isB (tb_isB t) hP.isB
  have hIl : (infoL (tb t) ps).length ≤ 1004 + 4100 * ps.length := infL_len (tb t) ps (by rw [tb_len]; exact ht) hp ps.length (Nat.le_refl _)
  have hm100 := hp.1
  replace hT := hide hT
  replace hF := hide hF
  replace hP := hide hP
  replace hp := hide hp
  replace hm := hide hm
  replace hKK := hide hKK
  replace hKb := hide hKb
  replace hIb := hide hIb
  go_enter Tryd.func59, Tryd.ntmps59
  go_upto_region 1 with fail
  have hB := (((Bl.nil w).new KK 25).new #[.int .u8 0, .int .u8 0, .int .u8 0, .int .u8 0, .int .u8 0, .int .u8 0, .int .u8 0, .int .u8 0, .int .u8 0, .int .u8 0, .int .u8 0, .int .u8 0, .int .u8 0, .int .u8 0, .int .u8 0, .int .u8 0, .int .u8 0, .int .u8 0, .int .u8 0, .int .u8 0, .int .u8 0, .int .u8 0, .int .u8 0, .int .u8 0, .int .u8 0, .int .u8 0, .int .u8 0, .int .u8 0, .int .u8 0, .int .u8 0, .int .u8 0, .int .u8 0] 25).new #[.int .u8 0, .int .u8 0, .int .u8 0, .int .u8 0, .int .u8 0, .int .u8 0, .int .u8 0, .int .u8 0, .int .u8 0, .int .u8 0, .int .u8 0, .int .u8 0, .int .u8 0, .int .u8 0, .int .u8 0, .int .u8 0, .int .u8 0, .int .u8 0, .int .u8 0, .int .u8 0, .int .u8 0, .int .u8 0, .int .u8 0, .int .u8 0, .int .u8 0, .int .u8 0, .int .u8 0, .int .u8 0, .int .u8 0, .int .u8 0, .int .u8 0, .int .u8 0] 25
  simp only [List.nil_append, List.cons_append, size_alloc] at hB
  generalize World.alloc _ _ = u1 at *
  replace hB : Bl w [⟨w.heap.size, KK, 25⟩, ⟨w.heap.size + 1, kc Z32, 25⟩, ⟨w.heap.size + 1 + 1, kc Z32, 25⟩] u1 := hB
  refine any_start (S := fun v => v.heap[w.heap.size]? = some (.cells KK 25 (0, 0))) (by kernel_rfl) ?_
  replace hB := hB.drew
  generalize World.drew _ = u2 at *
  simp only [List.size_toArray, List.length_cons, List.length_nil, Array.replicate, List.replicate]
  refine any_take (i := 0) (v := (.agg KK)) #[false, false, false, false, false, false] rfl (by kernel_rfl) (by kernel_rfl) (by kernel_rfl) (by kernel_rfl) (fun _ _ _ h => h) (.inl ⟨by kernel_rfl, fun x_ hu => exec_arr x_ 25 (.tmp 3) rfl w.heap.size (by kernel_rfl) KK 25 _ hu Tryd.underlying25 rfl (by rw [Tryd.infoKey, hKs])⟩) (hB.get 0 (x := ⟨w.heap.size, KK, 25⟩) rfl) ?_
  simp only [nrm]
  refine any_take (i := 1) (v := (.string t)) #[true, false, false, false, false, false] rfl (by kernel_rfl) (by kernel_rfl) (by kernel_rfl) (by kernel_rfl) (fun _ _ _ h => h) (.inl ⟨by kernel_rfl, fun x_ hu => by kernel_rfl⟩) (hB.get 0 (x := ⟨w.heap.size, KK, 25⟩) rfl) ?_
  simp only [nrm]
  refine any_take (i := 2) (v := (.slice ap m cp)) #[true, true, false, false, false, false] rfl (by kernel_rfl) (by kernel_rfl) (by kernel_rfl) (by kernel_rfl) (fun _ _ _ h => h) (.inl ⟨by kernel_rfl, fun x_ hu => by kernel_rfl⟩) (hB.get 0 (x := ⟨w.heap.size, KK, 25⟩) rfl) ?_
  simp only [nrm]
  refine any_one (i := 3) (by kernel_rfl) rfl (fun K hK => ?_)
  refine step_callw (by kernel_rfl) 75 #[.string t, .slice ap m cp] (by kernel_rfl) ((rinfo_ok t ht ps ap m cp (unhide hm) (unhide hp) _ ((unhide hP).gr hB.gr)).mono ?_)
  rintro r y1 ⟨a1, n1, c1, rfl, l1, hg⟩
  refine ⟨_, rfl, ?_⟩
  replace hB := hB.more hg
  have hn1 := l1.len
  clear hg
  refine hK.out _ _ (hB.get 0 (x := ⟨w.heap.size, KK, 25⟩) rfl) (fun _ => ?_)
  clear hK K
  simp only [nrm]
  refine any_one (i := 4) (by kernel_rfl) rfl (fun K hK => ?_)
  rw [unhide hKK]
  refine step_callw (by kernel_rfl) 74 #[.agg (kc Ky), .slice a1 n1 c1, .int .i64 64] (by kernel_rfl) ((rexpand_ok Ky hKl (unhide hKb) (infoL (tb t) ps) a1 n1 c1 64 (by omega) (by omega) _ l1).mono ?_)
  rintro r y2 ⟨a2, c2, rfl, l2, hg⟩
  refine ⟨_, rfl, ?_⟩
  rw [← unhide hKK]
  replace hB := hB.more hg
  clear hg l1
  replace l2 := hide l2
  refine hK.out _ _ (hB.get 0 (x := ⟨w.heap.size, KK, 25⟩) rfl) (fun _ => ?_)
  clear hK K
  simp only [nrm]
  refine any_one (i := 5) (by kernel_rfl) rfl (fun K hK => ?_)
  replace hK := hide hK
  go_simp
  refine (unhide hK).out _ _ (hB.get 0 (x := ⟨w.heap.size, KK, 25⟩) rfl) (fun _ => ?_)
  clear hK K
  refine any_done (by kernel_rfl) ?_
  replace l2 := unhide l2
  obtain ⟨E, hE⟩ : ∃ E, E = spL Ky (infoL (tb t) ps) 64 := ⟨_, rfl⟩
  have hEl : E.length = 64 := by rw [hE]; exact spL_len _ _ _
  rw [← hE] at l2 hT
  clear hE
  have lD := Sl.cutl l2 32 (by omega)
  have lE := Sl.cutr l2 32 (by omega)
  obtain ⟨D1, hD1⟩ : ∃ D, D = E.take 32 := ⟨_, rfl⟩
  obtain ⟨D2, hD2⟩ : ∃ D, D = E.drop 32 := ⟨_, rfl⟩
  have hDl1 : D1.length = 32 := by rw [hD1, List.length_take, hEl]; rfl
  have hDl2 : D2.length = 32 := by rw [hD2, List.length_drop, hEl]
  rw [← hD1] at lD hT
  rw [← hD2] at lE hT
  have hold := l2.old
  have hfr2 : Hid (∀ x, a2 = some x → x.block < y2.heap.size) := fun x hx => by
    rcases hold x hx with h | h
    · exact h
    · rw [h] at hEl; simp at hEl
  have hc64 := l2.cap
  have lD2 : Sl y2 a2 D1 := lD.sl
  obtain ⟨a3, ha3⟩ : ∃ a3, a3 = Option.map (fun x => x.add 32) a2 := ⟨_, rfl⟩
  have lE2 : Sl y2 a3 D2 := by
    have := lE.sl
    rw [if_neg (by omega)] at this
    rw [ha3]
    exact this
  have hfr3 : Hid (∀ x, a3 = some x → x.block < y2.heap.size) := by
    intro x hx
    rw [ha3] at hx
    cases ha2 : a2 with
    | none => rw [ha2] at hx; cases hx
    | some y =>
      rw [ha2] at hx
      have h5 : y.add 32 = x := by simpa using hx
      rw [← h5, add_block]
      exact (unhide hfr2) y ha2
  have hc32 : ¬ c2 = 32 := by omega
  have hcI : (32 : Int) ≤ (c2 : Int) := by omega
  clear hD1 hD2 l2 lD lE hold
  replace ha3 := hide ha3
  replace lD2 := hide lD2
  replace lE2 := hide lE2
  replace hB := hide hB
  go_upto_region 3 with fail
  replace hB := ((unhide hB).new #[.int .u8 0, .int .u8 0, .int .u8 0, .int .u8 0, .int .u8 0, .int .u8 0, .int .u8 0, .int .u8 0, .int .u8 0, .int .u8 0, .int .u8 0, .int .u8 0, .int .u8 0, .int .u8 0, .int .u8 0, .int .u8 0, .int .u8 0, .int .u8 0, .int .u8 0, .int .u8 0, .int .u8 0, .int .u8 0, .int .u8 0, .int .u8 0, .int .u8 0, .int .u8 0, .int .u8 0, .int .u8 0, .int .u8 0, .int .u8 0, .int .u8 0, .int .u8 0] 25).new #[.int .u8 0, .int .u8 0, .int .u8 0, .int .u8 0, .int .u8 0, .int .u8 0, .int .u8 0, .int .u8 0, .int .u8 0, .int .u8 0, .int .u8 0, .int .u8 0, .int .u8 0, .int .u8 0, .int .u8 0, .int .u8 0, .int .u8 0, .int .u8 0, .int .u8 0, .int .u8 0, .int .u8 0, .int .u8 0, .int .u8 0, .int .u8 0, .int .u8 0, .int .u8 0, .int .u8 0, .int .u8 0, .int .u8 0, .int .u8 0, .int .u8 0, .int .u8 0] 25
  simp only [List.nil_append, List.cons_append, size_alloc] at hB
  have hga := ((Gr.refl y2).alloc (.cells #[.int .u8 0, .int .u8 0, .int .u8 0, .int .u8 0, .int .u8 0, .int .u8 0, .int .u8 0, .int .u8 0, .int .u8 0, .int .u8 0, .int .u8 0, .int .u8 0, .int .u8 0, .int .u8 0, .int .u8 0, .int .u8 0, .int .u8 0, .int .u8 0, .int .u8 0, .int .u8 0, .int .u8 0, .int .u8 0, .int .u8 0, .int .u8 0, .int .u8 0, .int .u8 0, .int .u8 0, .int .u8 0, .int .u8 0, .int .u8 0, .int .u8 0, .int .u8 0] 25)).alloc (.cells #[.int .u8 0, .int .u8 0, .int .u8 0, .int .u8 0, .int .u8 0, .int .u8 0, .int .u8 0, .int .u8 0, .int .u8 0, .int .u8 0, .int .u8 0, .int .u8 0, .int .u8 0, .int .u8 0, .int .u8 0, .int .u8 0, .int .u8 0, .int .u8 0, .int .u8 0, .int .u8 0, .int .u8 0, .int .u8 0, .int .u8 0, .int .u8 0, .int .u8 0, .int .u8 0, .int .u8 0, .int .u8 0, .int .u8 0, .int .u8 0, .int .u8 0, .int .u8 0] 25)
  replace lD2 := (unhide lD2).gr hga
  replace lE2 := (unhide lE2).gr hga
  clear hga
  generalize World.alloc _ _ = y5 at *
  generalize y2.heap.size = h9 at *
  replace hB : Bl w [⟨w.heap.size, KK, 25⟩, ⟨w.heap.size + 1, kc Z32, 25⟩, ⟨w.heap.size + 1 + 1, kc Z32, 25⟩, ⟨h9, kc Z32, 25⟩, ⟨h9 + 1, kc Z32, 25⟩] y5 := hB
  refine any_start (S := fun _ => True) (by kernel_rfl) ?_
  replace hB := hB.drew
  replace lD2 := lD2.gr (Gr.refl _).drew
  replace lE2 := lE2.gr (Gr.refl _).drew
  generalize World.drew _ = y5b at *
  simp only [List.size_toArray, List.length_cons, List.length_nil, Array.replicate, List.replicate]
  refine any_take (i := 0) (v := (.slice (some ⟨h9, 0, none⟩) 32 32)) #[false, false, false, false] rfl (by kernel_rfl) (by kernel_rfl) (by kernel_rfl) (by kernel_rfl) (fun _ _ _ h => h) (.inl ⟨by kernel_rfl, fun x_ hu => by go_simp⟩) trivial ?_
  simp only [nrm]
  refine any_take (i := 1) (v := (.slice a2 64 c2)) #[true, false, false, false] rfl (by kernel_rfl) (by kernel_rfl) (by kernel_rfl) (by kernel_rfl) (fun _ _ _ h => h) (.inl ⟨by kernel_rfl, fun x_ hu => by kernel_rfl⟩) trivial ?_
  simp only [nrm]
  refine any_take (i := 2) (v := (.slice a2 32 c2)) #[true, true, false, false] rfl (by kernel_rfl) (by kernel_rfl) (by kernel_rfl) (by kernel_rfl) (fun _ _ _ h => h) (.inl ⟨by kernel_rfl, fun x_ hu => by go_simp⟩) trivial ?_
  simp only [nrm]
  refine any_one (i := 3) (by kernel_rfl) rfl (fun K hK => ?_)
  rw [if_pos (by kernel_rfl)]
  refine copy_wp (.tmp 16) (.tmp 18) rfl (h9) 0 32 32 a2 32 c2 (by kernel_rfl) (by kernel_rfl) (Z32.map (Value.int .u8)) 25 (hB.get 3 (x := ⟨h9, kc Z32, 25⟩) rfl) D1 (by rw [hDl1]; rfl) (by rcases lD2 with h | ⟨p, o, h1, h2⟩; exact .inl h; exact .inr ⟨p, o, h1, h2⟩) (by rw [hDl1]; decide) ?_
  replace lE2 := lE2.other (g := h9) (D1.map (Value.int .u8)) (fun x hx => by have := (unhide hfr3) x hx; omega)
  replace hB := hB.copy 3 (Z := Z32) (D := D1) rfl rfl hDl1
  simp only [List.set_cons_zero, List.set_cons_succ] at hB
  rw [hDl1]
  refine hK.out _ _ trivial (fun _ => ?_)
  clear hK K lD2
  generalize World.setCells _ _ _ _ = y6 at *
  try simp only [nrm]
  refine any_done (by kernel_rfl) ?_
  replace hB := hide hB
  replace lE2 := hide lE2
  go_upto_region 4 with fail
  replace hB := unhide hB
  replace lE2 := unhide lE2
  refine any_start (S := fun _ => True) (by kernel_rfl) ?_
  replace hB := hB.drew
  replace lE2 := lE2.gr (Gr.refl _).drew
  generalize World.drew _ = y6b at *
  simp only [List.size_toArray, List.length_cons, List.length_nil, Array.replicate, List.replicate]
  refine any_take (i := 0) (v := (.slice (some ⟨h9 + 1, 0, none⟩) 32 32)) #[false, false, false, false] rfl (by kernel_rfl) (by kernel_rfl) (by kernel_rfl) (by kernel_rfl) (fun _ _ _ h => h) (.inl ⟨by kernel_rfl, fun x_ hu => by go_simp⟩) trivial ?_
  simp only [nrm]
  refine any_take (i := 1) (v := (.slice a2 64 c2)) #[true, false, false, false] rfl (by kernel_rfl) (by kernel_rfl) (by kernel_rfl) (by kernel_rfl) (fun _ _ _ h => h) (.inl ⟨by kernel_rfl, fun x_ hu => by kernel_rfl⟩) trivial ?_
  simp only [nrm]
  refine any_take (i := 2) (v := (.slice a3 32 (c2 - 32))) #[true, true, false, false] rfl (by kernel_rfl) (by kernel_rfl) (by kernel_rfl) (by kernel_rfl) (fun _ _ _ h => h) (.inl ⟨by kernel_rfl, fun x_ hu => by rw [unhide ha3]; go_simp⟩) trivial ?_
  simp only [nrm]
  refine any_one (i := 3) (by kernel_rfl) rfl (fun K hK => ?_)
  rw [if_pos (by kernel_rfl)]
  refine copy_wp (.tmp 20) (.tmp 22) rfl (h9 + 1) 0 32 32 a3 32 (c2 - 32) (by kernel_rfl) (by kernel_rfl) (Z32.map (Value.int .u8)) 25 (hB.get 4 (x := ⟨h9 + 1, kc Z32, 25⟩) rfl) D2 (by rw [hDl2]; rfl) (by rcases lE2 with h | ⟨p, o, h1, h2⟩; exact .inl h; exact .inr ⟨p, o, h1, h2⟩) (by rw [hDl2]; decide) ?_
  replace hB := hB.copy 4 (Z := Z32) (D := D2) rfl rfl hDl2
  simp only [List.set_cons_zero, List.set_cons_succ] at hB
  rw [hDl2]
  refine hK.out _ _ trivial (fun _ => ?_)
  clear hK K lE2
  generalize World.setCells _ _ _ _ = y7 at *
  try simp only [nrm]
  refine any_done (by kernel_rfl) ?_
  replace hB := hide hB
  go_upto_region 5 with fail
  replace hB := unhide hB
  refine any_start (S := fun v => v.heap[h9]? = some (.cells (kc D1) 25 (0, 0)) ∧ v.heap[h9 + 1]? = some (.cells (kc D2) 25 (0, 0))) (by kernel_rfl) ?_
  replace hB := hB.drew
  generalize World.drew _ = y8 at *
  simp only [List.size_toArray, List.length_cons, List.length_nil, Array.replicate, List.replicate]
  refine any_take (i := 0) (v := (.agg (kc D1))) #[false, false, false, false] rfl (by kernel_rfl) (by kernel_rfl) (by kernel_rfl) (by kernel_rfl) (fun _ _ _ h => h) (.inl ⟨by kernel_rfl, fun x_ hu => exec_arr x_ 25 (.tmp 9) rfl (h9) (by kernel_rfl) (kc D1) 25 _ hu.1 Tryd.underlying25 rfl (by rw [Tryd.infoKey, kc_size, hDl1])⟩) ⟨hB.get 3 (x := ⟨h9, kc D1, 25⟩) rfl, hB.get 4 (x := ⟨h9 + 1, kc D2, 25⟩) rfl⟩ ?_
  simp only [nrm]
  refine any_take (i := 1) (v := (.agg (kc D2))) #[true, false, false, false] rfl (by kernel_rfl) (by kernel_rfl) (by kernel_rfl) (by kernel_rfl) (fun _ _ _ h => h) (.inl ⟨by kernel_rfl, fun x_ hu => exec_arr x_ 25 (.tmp 10) rfl (h9 + 1) (by kernel_rfl) (kc D2) 25 _ hu.2 Tryd.underlying25 rfl (by rw [Tryd.infoKey, kc_size, hDl2])⟩) ⟨hB.get 3 (x := ⟨h9, kc D1, 25⟩) rfl, hB.get 4 (x := ⟨h9 + 1, kc D2, 25⟩) rfl⟩ ?_
  simp only [nrm]
  refine any_one (i := 2) (by kernel_rfl) rfl (fun K hK => ?_)
  rw [if_pos (by kernel_rfl)]
  refine wp_store_row 25 (.tmp 6) (.tmp 24) rfl (w.heap.size + 1) (kc D1) (by kernel_rfl) (by kernel_rfl) 25 (kc Z32) (hB.get 1 (x := ⟨w.heap.size + 1, kc Z32, 25⟩) rfl) (by rw [Tryd.infoKey, kc_size, hDl1]) ((show (kc Z32).size = 32 from rfl).trans ((kc_size _).trans hDl1).symm) (kc_one _) ?_
  replace hB := hB.set 1 (x := ⟨w.heap.size + 1, kc Z32, 25⟩) rfl (kc D1)
  simp only [List.set_cons_zero, List.set_cons_succ] at hB
  refine hK.out _ _ ⟨hB.get 3 (x := ⟨h9, kc D1, 25⟩) rfl, hB.get 4 (x := ⟨h9 + 1, kc D2, 25⟩) rfl⟩ (fun _ => ?_)
  clear hK K
  generalize World.setRow _ _ _ = z1 at *
  try simp only [nrm]
  refine any_one (i := 3) (by kernel_rfl) rfl (fun K hK => ?_)
  rw [if_pos (by kernel_rfl)]
  refine wp_store_row 25 (.tmp 7) (.tmp 25) rfl (w.heap.size + 1 + 1) (kc D2) (by kernel_rfl) (by kernel_rfl) 25 (kc Z32) (hB.get 2 (x := ⟨w.heap.size + 1 + 1, kc Z32, 25⟩) rfl) (by rw [Tryd.infoKey, kc_size, hDl2]) ((show (kc Z32).size = 32 from rfl).trans ((kc_size _).trans hDl2).symm) (kc_one _) ?_
  replace hB := hB.set 2 (x := ⟨w.heap.size + 1 + 1, kc Z32, 25⟩) rfl (kc D2)
  simp only [List.set_cons_zero, List.set_cons_succ] at hB
  refine hK.out _ _ ⟨hB.get 3 (x := ⟨h9, kc D1, 25⟩) rfl, hB.get 4 (x := ⟨h9 + 1, kc D2, 25⟩) rfl⟩ (fun _ => ?_)
  clear hK K
  generalize World.setRow _ _ _ = z2 at *
  try simp only [nrm]
  refine any_done (by kernel_rfl) ?_
  go_wp2_with fail
  rw [unhide hT]
  exact bodyPost_ret (v := .tuple #[.agg (kc D1), .agg (kc D2)]) (results_two Tryd.results59 _ _ (w.heap.size + 1) (w.heap.size + 1 + 1) 25 25 (kc D1) (kc D2) (0, 0) (0, 0) _ rfl rfl (hB.get 1 (x := ⟨w.heap.size + 1, kc D1, 25⟩) rfl) (hB.get 2 (x := ⟨w.heap.size + 1 + 1, kc D2, 25⟩) rfl) Tryd.underlying25 rfl (by rw [Tryd.infoKey, kc_size, hDl1]) (by rw [Tryd.infoKey, kc_size, hDl2])) rfl ⟨rfl, hB.gr⟩
end Go.Proofs.YtpmgmpihmpifgaaDoor
/-
  The steps of a chain.
-/
namespace Go.Proofs.YtpmgmpihmpifgaaDoor
open Go.RowKit
set_option maxRecDepth 100000
set_option linter.unusedSimpArgs false
set_option linter.unusedVariables false
end Go.Proofs.YtpmgmpihmpifgaaDoor
/-
  Two keys that are made while a region's chain goes on: they stay two.
-/
namespace Go.Proofs.YtpmgmpihmpifgaaDoor
open Go.RowKit
set_option maxRecDepth 100000
set_option linter.unusedVariables false
section
variable {P : Program} {md : Region.Mode} {ops : Array Oper} {Q : Exit → Act → World → Prop} {S : World → Prop}
end
end Go.Proofs.YtpmgmpihmpifgaaDoor

namespace Go.Proofs.YtpmgmpihmpifgaaDoor
open Go.RowKit
set_option maxRecDepth 100000
set_option linter.unusedSimpArgs false
set_option linter.unusedVariables false
theorem step_storew {P : Program} {ops : Array Oper} {Q : Exit → Act → World → Prop} {a : Act} {w : World} {o : Oper} {K : Act → World → Prop} (ty : TypeId) (x y : Operand) (g : Nat) (c : Array Value) (t : TypeId) (old : Array Value) (hw : Region.wanted o (yielded ops a.tmps) = true) (ho : o.op = .store ty x y)
    (hx : a.eval x = .pointer (some ⟨g, 0, none⟩)) (hy : a.eval y = .agg c) (hg : w.heap[g]? = some (.cells old t (0, 0))) (hi : (P.info? ty).map (·.size) = some c.size) (hold : old.size = c.size) (h1 : c.all (·.oneCell') = true)
    (h : K (a.put o.dst undef) (w.setRow g c)) : if Region.wanted o (yielded ops a.tmps) = true then Oper.wp P o a w K Q else K (a.put o.dst undef) w := by
  rw [if_pos hw]
  exact wp_store_row ty x y ho g c hx hy t old hg hi hold h1 h
theorem results_cell_tmp {P : Program} {fn : Func} {p q : Tmp} {ty : TypeId} (h : fn.results = #[.cell p ty, .tmp q]) (tmps : Array Value) (w : World) (g : Nat) (t : TypeId) (cs : Array Value) (fr : Nat × Nat) (d : TypeDesc)
    (hp : tmps.getD p undef = .pointer (some ⟨g, 0, none⟩)) (v : Value) (hq : tmps.getD q undef = v) (hg : w.heap[g]? = some (.cells cs t fr))
    (hu : P.underlying ty = some d) (hd : (match d with | .struct _ | .array _ _ => true | _ => false) = true) (hi : (P.info? ty).map (·.size) = some cs.size) :
    (results fn tmps).run P w = .ok (.tuple #[.agg cs, v]) w := by
  have hp' : tmps[p]?.getD undef = .pointer (some ⟨g, 0, none⟩) := by simpa using hp
  have hq' : tmps[q]?.getD undef = v := by simpa using hq
  simp [results, h, hp', hq', asAddr, run_loadVar_row w g t ty cs fr d hg hu hd hi]
def pairv (K : List Int) (f : Bool) : Array Value := (K.map (Value.int .u8) ++ [Value.bool f]).toArray
theorem pairv_size (K : List Int) (f : Bool) : (pairv K f).size = K.length + 1 := by unfold pairv; simp
theorem pairv_one (K : List Int) (f : Bool) : (pairv K f).all (·.oneCell') = true := by unfold pairv; simp [Value.oneCell']
theorem Tryd.infoPair : (Tryd.prog.info? 36).map (·.size) = some 33 := by kernel_rfl
theorem exec_pp {op : Oper} {a : Act} (w : World) (x : Operand) (ho : op.op = .load 36 x) (g : Nat) (hx : a.eval x = .pointer (some ⟨g, 0, none⟩)) (K : List Int) (hK : K.length = 32) (f : Bool) (h : w.heap[g]? = some (.cells (pairv K f) 36 (0, 0))) :
    (execOp a.eval op).run Tryd.prog w = .ok (.value (.agg (pairv K f))) w :=
  exec_arr w 36 x ho g hx (pairv K f) 36 _ h Tryd.underlying36 rfl (by rw [Tryd.infoPair, pairv_size, hK])
end Go.Proofs.YtpmgmpihmpifgaaDoor
