/-
  The document's code.
-/
import Derived.Test.YtpmgmpihmpifgaaDoorKdfH
namespace Go.Proofs.YtpmgmpihmpifgaaDoor
open Go.RowKit
set_option maxRecDepth 100000
set_option linter.unusedSimpArgs false
set_option linter.unusedVariables false

/-- 64 bytes are made -/
def Mk (s : Nat) (u : World) (q : Value) : Prop := ∃ g, q = .slice (some ⟨g, 0, none⟩) 64 64 ∧ u.heap[g]? = some (.cells (kc Z6) 5 (0, 0)) ∧ s ≤ g
def Mk2 (s gi : Nat) (u : World) (q : Value) : Prop := ∃ g, q = .slice (some ⟨g, 0, none⟩) 64 64 ∧ u.heap[g]? = some (.cells (kc Z6) 5 (0, 0)) ∧ s ≤ g ∧ g ≠ gi
/-- the first n of 64 bytes are laid -/
def YK (f : Nat → Int) : Nat → List Int
  | 0 => Z6
  | n + 1 => (YK f n).set n (f n)
theorem YK_len (f : Nat → Int) : ∀ n, (YK f n).length = 64
  | 0 => rfl
  | n + 1 => by rw [YK, List.length_set, YK_len f n]
theorem YK_get (f : Nat → Int) (j : Nat) : ∀ n, n ≤ 64 → j < n → (YK f n).getD j 0 = f j
  | 0, _, h => by omega
  | n + 1, h, hj => by
    rw [YK, getD_set _ _ _ _ (by rw [YK_len]; omega)]
    by_cases e : j = n
    · rw [if_pos e, e]
    · rw [if_neg e]
      exact YK_get f j n (by omega) (by omega)
def kxf (B : List Int) (x : Int) (i : Nat) : Int := kxb ((k6 B).getD i 0) x
theorem YK_all (B : List Int) (x : Int) : YK (kxf B x) 64 = padK B x := by
  apply List.ext_getElem (by rw [YK_len, padK_len])
  intro i h1 h2
  have hi : i < 64 := by rw [padK_len] at h2; exact h2
  have h3 := YK_get (kxf B x) i 64 (Nat.le_refl _) hi
  rw [List.getD_eq_getElem?_getD, List.getElem?_eq_getElem h1] at h3
  simp only [Option.getD_some] at h3
  rw [h3]
  unfold padK kxf
  simp
theorem kc5_lb {w : World} {g : Nat} {D : List Int} (h : w.heap[g]? = some (.cells (kc D) 5 (0, 0))) (hl : D.length = 64) (hb : IsB D) : Lb w (some ⟨g, 0, none⟩) 64 64 D := ⟨hl, hb, .inr ⟨g, 0, rfl, kc_at h⟩, Nat.le_refl _, by omega⟩
theorem k6_isB {B : List Int} (h : IsB B) : IsB (k6 B) := by
  unfold k6
  split
  · exact sumL_isB _
  · exact h
set_option maxHeartbeats 4000000 in
theorem rhmac_ok (B X : List Int) (a b : Option Addr) (n c m d : Nat) (hnb : n ≤ 1000000) (hmb : m ≤ 1000000) (w : World) (hA : Lb w a n c B) (hX : Lb w b m d X) : Calls Tryd.prog 92 #[.slice a n c, .slice b m d] w (Coded B X w) := by
  obtain ⟨T, hT⟩ : ∃ T, T = Coded B X w := ⟨_, rfl⟩
  rw [← hT]
  have la := hide hA.len
  replace hT := hide hT
  replace hA := hide hA
  replace hX := hide hX
  by_cases hl64 : 64 < n
  · have lI : 64 < (n : Int) := by omega
    go_enter Tryd.func92, Tryd.ntmps92
    go_upto_region 3 with fail
    have hB := (Bl.nil w).new #[.int .u8 0, .int .u8 0, .int .u8 0, .int .u8 0, .int .u8 0, .int .u8 0, .int .u8 0, .int .u8 0, .int .u8 0, .int .u8 0, .int .u8 0, .int .u8 0, .int .u8 0, .int .u8 0, .int .u8 0, .int .u8 0, .int .u8 0, .int .u8 0, .int .u8 0, .int .u8 0, .int .u8 0, .int .u8 0, .int .u8 0, .int .u8 0, .int .u8 0, .int .u8 0, .int .u8 0, .int .u8 0, .int .u8 0, .int .u8 0, .int .u8 0, .int .u8 0] 25
    simp only [List.nil_append] at hB
    generalize World.alloc _ _ = u1 at *
    replace hB : Bl w [⟨w.heap.size, kc Z32, 25⟩] u1 := hB
    refine wp_region_lit ?_
    replace hB := hide hB
    iterate 1 (refine wpList_step fun K hK => ?_; replace hK := hide hK; go_simp; refine unhide hK _ _ ?_; clear hK K)
    replace hB := unhide hB
    have lA := (unhide hA).gr hB.gr
    refine list_call 33 #[.slice a n c] (by kernel_rfl) (by kernel_rfl) ((rsum_ok B lA.isB n lA.len (by omega) a c _ lA.sl).mono ?_)
    rintro r u2 ⟨rfl, hg⟩
    refine ⟨_, rfl, ?_⟩
    replace hB := hB.more hg
    clear hg lA
    simp only [Act.put, List.setIfInBounds_toArray, List.set_cons_zero, List.set_cons_succ, List.getElem_toArray, List.getElem_cons_zero, List.getElem_cons_succ]
    have hk6 : Hid (k6 B = sumL B) := by unfold k6; rw [if_pos (by rw [unhide la]; exact hl64)]; exact rfl
    obtain ⟨S, hS⟩ : ∃ M, M = sumL B := ⟨_, rfl⟩
    have hSl : S.length = 32 := by rw [hS]; exact sumL_len B
    rw [← hS] at hk6
    rw [← hS]
    clear hS
    replace hB := hide hB
    iterate 1 (refine wpList_step fun K hK => ?_; replace hK := hide hK; go_simp; refine unhide hK _ _ ?_; clear hK K)
    have hL := (Bl.nil u2).new #[.int .u8 0, .int .u8 0, .int .u8 0, .int .u8 0, .int .u8 0, .int .u8 0, .int .u8 0, .int .u8 0, .int .u8 0, .int .u8 0, .int .u8 0, .int .u8 0, .int .u8 0, .int .u8 0, .int .u8 0, .int .u8 0, .int .u8 0, .int .u8 0, .int .u8 0, .int .u8 0, .int .u8 0, .int .u8 0, .int .u8 0, .int .u8 0, .int .u8 0, .int .u8 0, .int .u8 0, .int .u8 0, .int .u8 0, .int .u8 0, .int .u8 0, .int .u8 0] 25
    simp only [List.nil_append] at hL
    generalize World.alloc _ _ = u3 at *
    replace hL : Bl u2 [⟨u2.heap.size, kc Z32, 25⟩] u3 := hL
    refine list_store 25 (.tmp 6) (.tmp 17) u2.heap.size (kc S) 25 (kc Z32) (by kernel_rfl) rfl (by kernel_rfl) (by kernel_rfl) (hL.get 0 (x := ⟨u2.heap.size, kc Z32, 25⟩) rfl) (by rw [Tryd.infoKey, kc_size, hSl]) ((show (kc Z32).size = 32 from rfl).trans ((kc_size _).trans hSl).symm) (kc_one _) ?_
    replace hL := hL.set 0 (x := ⟨u2.heap.size, kc Z32, 25⟩) rfl (kc S)
    simp only [List.set_cons_zero, List.set_cons_succ] at hL
    generalize World.setRow _ _ _ = u4 at *
    simp only [Act.put, List.setIfInBounds_toArray, List.set_cons_zero, List.set_cons_succ, List.getElem_toArray, List.getElem_cons_zero, List.getElem_cons_succ]
    refine wpList_nil ?_
    replace hB := (unhide hB).more hL.gr
    have lk : Lb u4 (some ⟨u2.heap.size, 0, none⟩) 32 32 (k6 B) := by
      rw [unhide hk6]
      exact ⟨hSl, (by rw [← unhide hk6]; exact k6_isB (unhide hA).isB), .inr ⟨_, 0, rfl, kc_at (hL.get 0 (x := ⟨u2.heap.size, kc S, 25⟩) rfl)⟩, by omega, by omega⟩
    have hlt := lt_of_block (hL.get 0 (x := ⟨u2.heap.size, kc S, 25⟩) rfl)
    dsimp only at hlt
    clear hL hk6
    generalize u2.heap.size = gk at *
    replace hB := hide hB
    replace lk := hide lk
    go_upto_region 5 with fail
    replace hB := unhide hB
    replace lk := unhide lk
    refine any_start (S := fun _ => True) (by kernel_rfl) ?_
    replace hB := hB.drew
    replace lk := lk.gr (Gr.refl _).drew
    generalize World.drew _ = W0 at *
    have hold : ∀ y : Addr, k6 B ≠ [] → (some ⟨gk, 0, none⟩) = some y → y.block < W0.heap.size := by
      intro y h1 h2
      rcases lk.sl with h | ⟨p, o, e, h⟩
      · exact absurd h h1
      · rw [e] at h2
        have hy : y = ⟨p, o, none⟩ := (Option.some.inj h2).symm
        have := lt_of_cell (h 0 (by cases hh : k6 B with | nil => exact absurd hh h1 | cons x r => simp))
        rw [hy]
        exact this
    simp only [List.size_toArray, List.length_cons, List.length_nil, Array.replicate, List.replicate]
    refine float_first (fun q u => Mk W0.heap.size u q) 20 (fun b_ => #[false, b_, false, false]) 1 0 false rfl rfl (fun _ _ => trivial) (by kernel_rfl) (fun b_ => by cases b_ <;> rfl) ?_ ?_
    all_goals simp only [fw1, Act.put, List.setIfInBounds_toArray, List.set_cons_zero, List.set_cons_succ, List.getElem_toArray, List.getElem_cons_zero, List.getElem_cons_succ]
    · intro q_ x_ hgx K hK
      refine wpOp_step (o := _) rfl (fun K' hK' => ?_)
      refine step_val (.slice (some ⟨x_.heap.size, 0, none⟩) 64 64) (x_.alloc (.cells (kc Z6) 5 (0, 0))) (by kernel_rfl) (by kernel_rfl) ?_
      exact hK' _ _ (hK _ _ ((Gr.refl _).alloc _) ⟨_, rfl, blk_new _ _, hgx.size⟩)
    intro b1 q1 x1 hg1 hTq _
    refine wpOp_step (o := _) rfl (fun K hK => ?_)
    refine step_val (.slice (some ⟨x1.heap.size, 0, none⟩) 64 64) (x1.alloc (.cells (kc Z6) 5 (0, 0))) (by kernel_rfl) (by kernel_rfl) ?_
    refine hK _ _ ⟨trivial, ?_⟩
    clear hK K
    simp only [Act.put, List.setIfInBounds_toArray, List.set_cons_zero, List.set_cons_succ, List.getElem_toArray, List.getElem_cons_zero, List.getElem_cons_succ]
    have hg := (Gr.refl x1).alloc (.cells (kc Z6) 5 (0, 0))
    have hin := blk_new x1 (.cells (kc Z6) 5 (0, 0))
    have hgi : W0.heap.size ≤ x1.heap.size := hg1.size
    have hT2 : b1 = true → Mk2 W0.heap.size x1.heap.size (x1.alloc (.cells (kc Z6) 5 (0, 0))) q1 := by
      intro e
      obtain ⟨g, h1, h2, h3⟩ := hTq e
      exact ⟨g, h1, hg.blk h2, h3, by have := lt_of_block h2; omega⟩
    have hG0 := hg1.trans hg
    generalize World.alloc _ _ = x2 at *
    generalize x1.heap.size = gi at *
    clear hTq hg hg1
    refine float_again (fun q u => Mk2 W0.heap.size gi u q) 20 (fun b_ => #[true, b_, false, false]) 1 2 false (b := b1) (q := q1) rfl rfl hT2 (fun _ _ => trivial) (by kernel_rfl) (fun b_ => by cases b_ <;> rfl) ?_ ?_
    all_goals simp only [fw1, Act.put, List.setIfInBounds_toArray, List.set_cons_zero, List.set_cons_succ, List.getElem_toArray, List.getElem_cons_zero, List.getElem_cons_succ]
    · intro q_ x_ hgx K hK
      refine wpOp_step (o := _) rfl (fun K' hK' => ?_)
      refine step_val (.slice (some ⟨x_.heap.size, 0, none⟩) 64 64) (x_.alloc (.cells (kc Z6) 5 (0, 0))) (by kernel_rfl) (by kernel_rfl) ?_
      exact hK' _ _ (hK _ _ ((Gr.refl _).alloc _) ⟨_, rfl, blk_new _ _, Nat.le_trans hG0.size hgx.size, by have := lt_of_block (hgx.blk hin); omega⟩)
    clear hT2
    intro b2 q2 x3 hg hT2 _
    replace hin := hg.blk hin
    replace hG0 := hG0.trans hg
    clear hg
    refine wpOp_step (o := _) rfl (fun K hK => ?_)
    refine step_val (.slice (some ⟨gi, 0, none⟩) 64 64) x3 (by kernel_rfl) (by kernel_rfl) ?_
    refine hK _ _ ⟨trivial, ?_⟩
    clear hK K
    simp only [Act.put, List.setIfInBounds_toArray, List.set_cons_zero, List.set_cons_succ, List.getElem_toArray, List.getElem_cons_zero, List.getElem_cons_succ]
    refine float_again (fun q u => Mk2 W0.heap.size gi u q) 20 (fun b_ => #[true, b_, true, false]) 1 3 true (b := b2) (q := q2) rfl rfl hT2 (fun _ _ => trivial) (by kernel_rfl) (fun b_ => by cases b_ <;> rfl) ?_ ?_
    all_goals simp only [fw1, Act.put, List.setIfInBounds_toArray, List.set_cons_zero, List.set_cons_succ, List.getElem_toArray, List.getElem_cons_zero, List.getElem_cons_succ]
    · intro q_ x_ hgx K hK
      refine wpOp_step (o := _) rfl (fun K' hK' => ?_)
      refine step_val (.slice (some ⟨x_.heap.size, 0, none⟩) 64 64) (x_.alloc (.cells (kc Z6) 5 (0, 0))) (by kernel_rfl) (by kernel_rfl) ?_
      exact hK' _ _ (hK _ _ ((Gr.refl _).alloc _) ⟨_, rfl, blk_new _ _, Nat.le_trans hG0.size hgx.size, by have := lt_of_block (hgx.blk hin); omega⟩)
    clear hT2
    intro b3 q3 x4 hg hT2 hall
    obtain rfl : b3 = true := hall (by trivial)
    obtain ⟨go, rfl, hon, hgo, hne⟩ := hT2 rfl
    clear hall hT2
    replace hin := hg.blk hin
    replace hG0 := hG0.trans hg
    clear hg
    refine wpOp_step (o := _) rfl (fun K hK => ?_)
    refine step_val (.slice (some ⟨go, 0, none⟩) 64 64) x4 (by kernel_rfl) (by kernel_rfl) ?_
    refine hK _ _ ⟨trivial, ?_⟩
    clear hK K
    simp only [Act.put, List.setIfInBounds_toArray, List.set_cons_zero, List.set_cons_succ, List.getElem_toArray, List.getElem_cons_zero, List.getElem_cons_succ]
    refine any_done (by kernel_rfl) ?_
    have hB2 : Bl w [⟨w.heap.size, kc Z32, 25⟩, ⟨gi, kc Z6, 5⟩, ⟨go, kc Z6, 5⟩] x4 := hB.join hG0 [⟨gi, kc Z6, 5⟩, ⟨go, kc Z6, 5⟩] (fun x hx => by
        simp only [List.mem_cons, List.not_mem_nil, or_false] at hx
        rcases hx with rfl | rfl
        · exact ⟨hin, hgi⟩
        · exact ⟨hon, hgo⟩) (List.pairwise_cons.2 ⟨fun y hy => by simp at hy; subst hy; exact fun e => hne e.symm, List.pairwise_singleton _ _⟩)
    replace lk := lk.gr hG0
    have hfar : Hid (∀ y : Addr, k6 B ≠ [] → (some ⟨gk, 0, none⟩) = some y → y.block ≠ gi ∧ y.block ≠ go) := fun y h1 h2 => by have := hold y h1 h2; exact ⟨by omega, by omega⟩
    clear hold hB hG0 hin hon hgi hgo hne
    have hB := hB2
    clear hB2
    replace hB : Hid (Bl w [⟨w.heap.size, kc Z32, 25⟩, ⟨gi, kc (YK (kxf B 54) 0), 5⟩, ⟨go, kc (YK (kxf B 92) 0), 5⟩] x4) := hB
    have hgx4 := hide (Gr.refl x4)
    replace lk := hide lk
    go_wp2_with fail
    go_loopw [9] (fun i wr => ∃ (k : Nat) (m1 m2 : List Int), k ≤ 64 ∧ i = .int .i64 k ∧ Hid (m1 = YK (kxf B 54) k) ∧ Hid (m2 = YK (kxf B 92) k) ∧ Hid (Lb wr (some ⟨gk, 0, none⟩) 32 32 (k6 B)) ∧ Hid (Bl w [⟨w.heap.size, kc Z32, 25⟩, ⟨gi, kc m1, 5⟩, ⟨go, kc m2, 5⟩] wr)) (fun i _ => 64 - (intOf i).toNat)
    case atStart => exact ⟨0, _, _, by omega, rfl, rfl, rfl, lk, hB⟩
    case round =>
    clear hB lk hgx4
    obtain ⟨k, m1, m2, hk, rfl, hm1, hm2, lk, hB⟩ := hrel
    have hl1 : m1.length = 64 := by rw [unhide hm1]; exact YK_len _ _
    have hl2 : m2.length = 64 := by rw [unhide hm2]; exact YK_len _ _
    by_cases hl : k < 64
    · have kI : (k : Int) < 64 := by omega
      have kJ : 0 ≤ (k : Int) ∧ (k : Int) < 64 := by omega
      have h1 := (unhide hB).get 1 (x := ⟨gi, kc m1, 5⟩) rfl
      have c1 := kc_cell h1 k (by omega)
      have f1 := froz_of (i := k) h1
      have hn1 : Hid (m1.set k (kxb ((k6 B).getD k 0) 54) = YK (kxf B 54) (k + 1)) := by rw [unhide hm1]; exact rfl
      have hn2 : Hid (m2.set k (kxb ((k6 B).getD k 0) 92) = YK (kxf B 92) (k + 1)) := by rw [unhide hm2]; exact rfl
      have hB2 := (unhide hB).cell 1 (x := ⟨gi, kc m1, 5⟩) rfl k (.int .u8 (kxb ((k6 B).getD k 0) 54))
      simp only [List.set_cons_zero, List.set_cons_succ, kc_set] at hB2
      have h2 := hB2.get 2 (x := ⟨go, kc m2, 5⟩) rfl
      have c2 := kc_cell h2 k (by omega)
      have f2 := froz_of (i := k) h2
      have hB3 := hB2.cell 2 (x := ⟨go, kc m2, 5⟩) rfl k (.int .u8 (kxb ((k6 B).getD k 0) 92))
      simp only [List.set_cons_zero, List.set_cons_succ, kc_set] at hB3
      have hne : gi ≠ go := by
        have := List.pairwise_cons.1 (List.pairwise_cons.1 hB3.ne).2
        exact this.1 _ List.mem_cons_self
      -- the key's own bytes lie elsewhere
      have lk2 : Hid (Lb ((wr.setCell ⟨gi, k, none⟩ (.int .u8 (kxb ((k6 B).getD k 0) 54))).setCell ⟨go, k, none⟩ (.int .u8 (kxb ((k6 B).getD k 0) 92))) (some ⟨gk, 0, none⟩) 32 32 (k6 B)) := by
        refine ⟨(unhide lk).len, (unhide lk).isB, ?_, (unhide lk).cap, (unhide lk).max⟩
        rcases (unhide lk).sl with h | ⟨p, o, e, h⟩
        · exact .inl h
        · refine .inr ⟨p, o, e, fun j hj => ?_⟩
          have hp := (unhide hfar) ⟨p, o, none⟩ (by intro e0; rw [e0] at hj; simp at hj) e
          have n1 : p ≠ gi := by have := hp.1; exact this
          have n2 : p ≠ go := by have := hp.2; exact this
          rw [cell_heap (Below.heap_setCell _ ⟨go, k, none⟩ _ p n2), cell_heap (Below.heap_setCell _ ⟨gi, k, none⟩ _ p n1)]
          exact h j hj
      generalize m1.getD k 0 = o1 at c1
      generalize m2.getD k 0 = o2 at c2
      clear h1 h2 hB2 hm1 hm2
      replace hB3 := hide hB3
      by_cases hlk : k < 32
      · have kn : (k : Int) < 32 := by omega
        have kn2 : 0 ≤ (k : Int) ∧ (k : Int) < 32 := by omega
        obtain ⟨p, o, hpo, cc⟩ := (unhide lk).cellAt hlk
        cases hpo
        try rw [Nat.zero_add] at cc
        clear lk
        generalize (k6 B).getD k 0 = y at *
        unfold kxb at *
        go_wp2_with fail
        go_roundw
        case rel => exact ⟨k + 1, _, _, by omega, by go_num, hn1, hn2, lk2, hB3⟩
        case measure => simp [intOf]; omega
      · have kn : ¬ (k : Int) < 32 := by omega
        have h0 : (k6 B).getD k 0 = 0 := by rw [List.getD_eq_getElem?_getD, List.getElem?_eq_none (by rw [(unhide lk).len]; omega)]; rfl
        rw [h0] at hn1 hn2 lk2 hB3 c2 f2
        clear lk
        unfold kxb at *
        go_wp2_with fail
        go_roundw
        case rel => exact ⟨k + 1, _, _, by omega, by go_num, hn1, hn2, lk2, hB3⟩
        case measure => simp [intOf]; omega
    · have e : k = 64 := by omega
      subst e
      have e1 : m1 = padK B 54 := (unhide hm1).trans (YK_all B 54)
      have e2 : m2 = padK B 92 := (unhide hm2).trans (YK_all B 92)
      have hB2 : Bl w [⟨w.heap.size, kc Z32, 25⟩, ⟨gi, kc (padK B 54), 5⟩, ⟨go, kc (padK B 92), 5⟩] wr := by rw [← e1, ← e2]; exact unhide hB
      clear hB hm1 hm2 e1 e2 lk hl1 hl2 hl hfar
      have hB := hide hB2
      clear hB2
      go_upto_region 14 with fail
      replace hB := unhide hB
      refine wp_region_lit ?_
      replace hB := hide hB
      iterate 2 (refine wpList_step fun K hK => ?_; replace hK := hide hK; go_simp; refine unhide hK _ _ ?_; clear hK K)
      replace hB := unhide hB
      refine list_call 93 #[.slice (some ⟨gi, 0, none⟩) 64 64, .slice b m d] (by kernel_rfl) (by kernel_rfl) ((both_ok (padK B 54) X (some ⟨gi, 0, none⟩) b 64 64 m d (by omega) _ (kc5_lb (hB.get 1 (x := ⟨gi, kc (padK B 54), 5⟩) rfl) (padK_len _ _) (padK_isB _ _)) ((unhide hX).gr hB.gr)).mono ?_)
      rintro r v1 ⟨y1, rfl, hO, hg⟩
      refine ⟨_, rfl, ?_⟩
      obtain ⟨a1, c1, rfl, l1⟩ := hO.lb (isB_append (padK_isB _ _) (unhide hX).isB)
      have hl1 : (padK B 54 ++ X).length = 64 + m := by rw [List.length_append, padK_len, (unhide hX).len]
      rw [hl1] at l1
      rw [hl1]
      replace hB := hB.more hg
      clear hg hO hl1
      simp only [Act.put, List.setIfInBounds_toArray, List.set_cons_zero, List.set_cons_succ, List.getElem_toArray, List.getElem_cons_zero, List.getElem_cons_succ]
      refine list_call 33 #[.slice a1 (64 + m) c1] (by kernel_rfl) (by kernel_rfl) ((rsum_ok (padK B 54 ++ X) l1.isB (64 + m) l1.len (by omega) a1 c1 _ l1.sl).mono ?_)
      rintro r v2 ⟨rfl, hg⟩
      refine ⟨_, rfl, ?_⟩
      replace hB := hB.more hg
      clear hg l1
      simp only [Act.put, List.setIfInBounds_toArray, List.set_cons_zero, List.set_cons_succ, List.getElem_toArray, List.getElem_cons_zero, List.getElem_cons_succ]
      have hSum : Hid (sumL (padK B 92 ++ sumL (padK B 54 ++ X)) = hmacL B X) := rfl
      obtain ⟨M, hM⟩ : ∃ M, M = sumL (padK B 54 ++ X) := ⟨_, rfl⟩
      have hMl : M.length = 32 := by rw [hM]; exact sumL_len _
      have hMb : Hid (IsB M) := by rw [hM]; exact sumL_isB _
      rw [← hM] at hSum
      rw [← hM]
      clear hM
      replace hB := hide hB
      iterate 1 (refine wpList_step fun K hK => ?_; replace hK := hide hK; go_simp; refine unhide hK _ _ ?_; clear hK K)
      replace hB := (unhide hB).new #[.int .u8 0, .int .u8 0, .int .u8 0, .int .u8 0, .int .u8 0, .int .u8 0, .int .u8 0, .int .u8 0, .int .u8 0, .int .u8 0, .int .u8 0, .int .u8 0, .int .u8 0, .int .u8 0, .int .u8 0, .int .u8 0, .int .u8 0, .int .u8 0, .int .u8 0, .int .u8 0, .int .u8 0, .int .u8 0, .int .u8 0, .int .u8 0, .int .u8 0, .int .u8 0, .int .u8 0, .int .u8 0, .int .u8 0, .int .u8 0, .int .u8 0, .int .u8 0] 25
      simp only [List.cons_append, List.nil_append] at hB
      generalize World.alloc _ _ = v3 at *
      generalize v2.heap.size = gs at *
      replace hB : Bl w [⟨w.heap.size, kc Z32, 25⟩, ⟨gi, kc (padK B 54), 5⟩, ⟨go, kc (padK B 92), 5⟩, ⟨gs, kc Z32, 25⟩] v3 := hB
      refine list_store 25 (.tmp 11) (.tmp 46) gs (kc M) 25 (kc Z32) (by kernel_rfl) rfl (by kernel_rfl) (by kernel_rfl) (hB.get 3 (x := ⟨gs, kc Z32, 25⟩) rfl) (by rw [Tryd.infoKey, kc_size, hMl]) ((show (kc Z32).size = 32 from rfl).trans ((kc_size _).trans hMl).symm) (kc_one _) ?_
      replace hB := hB.set 3 (x := ⟨gs, kc Z32, 25⟩) rfl (kc M)
      simp only [List.set_cons_zero, List.set_cons_succ] at hB
      generalize World.setRow _ _ _ = v4 at *
      simp only [Act.put, List.setIfInBounds_toArray, List.set_cons_zero, List.set_cons_succ, List.getElem_toArray, List.getElem_cons_zero, List.getElem_cons_succ]
      refine wpList_nil ?_
      replace hB := hide hB
      go_upto_region 15 with fail
      refine wp_region_lit ?_
      iterate 2 (refine wpList_step fun K hK => ?_; replace hK := hide hK; go_simp; refine unhide hK _ _ ?_; clear hK K)
      replace hB := unhide hB
      refine list_call 93 #[.slice (some ⟨go, 0, none⟩) 64 64, .slice (some ⟨gs, 0, none⟩) 32 32] (by kernel_rfl) (by kernel_rfl) ((both_ok (padK B 92) M (some ⟨go, 0, none⟩) (some ⟨gs, 0, none⟩) 64 64 32 32 (by omega) _ (kc5_lb (hB.get 2 (x := ⟨go, kc (padK B 92), 5⟩) rfl) (padK_len _ _) (padK_isB _ _)) ⟨hMl, unhide hMb, .inr ⟨gs, 0, rfl, kc_at (hB.get 3 (x := ⟨gs, kc M, 25⟩) rfl)⟩, by omega, by omega⟩).mono ?_)
      rintro r v5 ⟨y5, rfl, hO, hg⟩
      refine ⟨_, rfl, ?_⟩
      obtain ⟨a5, c5, rfl, l5⟩ := hO.lb (isB_append (padK_isB _ _) (unhide hMb))
      have hl5 : (padK B 92 ++ M).length = 96 := by rw [List.length_append, padK_len, hMl]
      rw [hl5] at l5
      rw [hl5]
      replace hB := hB.more hg
      clear hg hO hl5
      simp only [Act.put, List.setIfInBounds_toArray, List.set_cons_zero, List.set_cons_succ, List.getElem_toArray, List.getElem_cons_zero, List.getElem_cons_succ]
      refine list_call 33 #[.slice a5 96 c5] (by kernel_rfl) (by kernel_rfl) ((rsum_ok (padK B 92 ++ M) l5.isB 96 l5.len (by omega) a5 c5 _ l5.sl).mono ?_)
      rintro r v6 ⟨rfl, hg⟩
      refine ⟨_, rfl, ?_⟩
      replace hB := hB.more hg
      clear hg l5
      rw [unhide hSum]
      simp only [Act.put, List.setIfInBounds_toArray, List.set_cons_zero, List.set_cons_succ, List.getElem_toArray, List.getElem_cons_zero, List.getElem_cons_succ]
      have hRl : (hmacL B X).length = 32 := hmacL_len _ _
      obtain ⟨R, hR⟩ : ∃ R, R = hmacL B X := ⟨_, rfl⟩
      rw [← hR] at hRl
      rw [← hR]
      refine list_store 25 (.tmp 4) (.tmp 50) w.heap.size (kc R) 25 (kc Z32) (by kernel_rfl) rfl (by kernel_rfl) (by kernel_rfl) (hB.get 0 (x := ⟨w.heap.size, kc Z32, 25⟩) rfl) (by rw [Tryd.infoKey, kc_size, hRl]) ((show (kc Z32).size = 32 from rfl).trans ((kc_size _).trans hRl).symm) (kc_one _) ?_
      replace hB := hB.set 0 (x := ⟨w.heap.size, kc Z32, 25⟩) rfl (kc R)
      simp only [List.set_cons_zero, List.set_cons_succ] at hB
      generalize World.setRow _ _ _ = v7 at *
      simp only [Act.put, List.setIfInBounds_toArray, List.set_cons_zero, List.set_cons_succ, List.getElem_toArray, List.getElem_cons_zero, List.getElem_cons_succ]
      refine wpList_nil ?_
      go_wp2_with fail
      rw [unhide hT]
      exact bodyPost_ret (v := .agg (kc R)) (results_cell_row Tryd.results92 _ _ w.heap.size 25 (kc R) (0, 0) _ rfl (hB.get 0 (x := ⟨w.heap.size, kc R, 25⟩) rfl) Tryd.underlying25 rfl (by rw [Tryd.infoKey, kc_size, hRl])) rfl ⟨by rw [hR], hB.gr⟩
  · have lI : ¬ 64 < (n : Int) := by omega
    have hk6 : Hid (k6 B = B) := by unfold k6; rw [if_neg (by rw [unhide la]; exact hl64)]; exact rfl
    go_enter Tryd.func92, Tryd.ntmps92
    go_upto_region 5 with fail
    have hB := (Bl.nil w).new #[.int .u8 0, .int .u8 0, .int .u8 0, .int .u8 0, .int .u8 0, .int .u8 0, .int .u8 0, .int .u8 0, .int .u8 0, .int .u8 0, .int .u8 0, .int .u8 0, .int .u8 0, .int .u8 0, .int .u8 0, .int .u8 0, .int .u8 0, .int .u8 0, .int .u8 0, .int .u8 0, .int .u8 0, .int .u8 0, .int .u8 0, .int .u8 0, .int .u8 0, .int .u8 0, .int .u8 0, .int .u8 0, .int .u8 0, .int .u8 0, .int .u8 0, .int .u8 0] 25
    simp only [List.nil_append] at hB
    generalize World.alloc _ _ = u4 at *
    replace hB : Bl w [⟨w.heap.size, kc Z32, 25⟩] u4 := hB
    have lk : Lb u4 a n c (k6 B) := by rw [unhide hk6]; exact (unhide hA).gr hB.gr
    clear hk6
    refine any_start (S := fun _ => True) (by kernel_rfl) ?_
    replace hB := hB.drew
    replace lk := lk.gr (Gr.refl _).drew
    generalize World.drew _ = W0 at *
    have hold : ∀ y : Addr, k6 B ≠ [] → a = some y → y.block < W0.heap.size := by
      intro y h1 h2
      rcases lk.sl with h | ⟨p, o, e, h⟩
      · exact absurd h h1
      · rw [e] at h2
        have hy : y = ⟨p, o, none⟩ := (Option.some.inj h2).symm
        have := lt_of_cell (h 0 (by cases hh : k6 B with | nil => exact absurd hh h1 | cons x r => simp))
        rw [hy]
        exact this
    simp only [List.size_toArray, List.length_cons, List.length_nil, Array.replicate, List.replicate]
    refine float_first (fun q u => Mk W0.heap.size u q) 20 (fun b_ => #[false, b_, false, false]) 1 0 false rfl rfl (fun _ _ => trivial) (by kernel_rfl) (fun b_ => by cases b_ <;> rfl) ?_ ?_
    all_goals simp only [fw1, Act.put, List.setIfInBounds_toArray, List.set_cons_zero, List.set_cons_succ, List.getElem_toArray, List.getElem_cons_zero, List.getElem_cons_succ]
    · intro q_ x_ hgx K hK
      refine wpOp_step (o := _) rfl (fun K' hK' => ?_)
      refine step_val (.slice (some ⟨x_.heap.size, 0, none⟩) 64 64) (x_.alloc (.cells (kc Z6) 5 (0, 0))) (by kernel_rfl) (by kernel_rfl) ?_
      exact hK' _ _ (hK _ _ ((Gr.refl _).alloc _) ⟨_, rfl, blk_new _ _, hgx.size⟩)
    intro b1 q1 x1 hg1 hTq _
    refine wpOp_step (o := _) rfl (fun K hK => ?_)
    refine step_val (.slice (some ⟨x1.heap.size, 0, none⟩) 64 64) (x1.alloc (.cells (kc Z6) 5 (0, 0))) (by kernel_rfl) (by kernel_rfl) ?_
    refine hK _ _ ⟨trivial, ?_⟩
    clear hK K
    simp only [Act.put, List.setIfInBounds_toArray, List.set_cons_zero, List.set_cons_succ, List.getElem_toArray, List.getElem_cons_zero, List.getElem_cons_succ]
    have hg := (Gr.refl x1).alloc (.cells (kc Z6) 5 (0, 0))
    have hin := blk_new x1 (.cells (kc Z6) 5 (0, 0))
    have hgi : W0.heap.size ≤ x1.heap.size := hg1.size
    have hT2 : b1 = true → Mk2 W0.heap.size x1.heap.size (x1.alloc (.cells (kc Z6) 5 (0, 0))) q1 := by
      intro e
      obtain ⟨g, h1, h2, h3⟩ := hTq e
      exact ⟨g, h1, hg.blk h2, h3, by have := lt_of_block h2; omega⟩
    have hG0 := hg1.trans hg
    generalize World.alloc _ _ = x2 at *
    generalize x1.heap.size = gi at *
    clear hTq hg hg1
    refine float_again (fun q u => Mk2 W0.heap.size gi u q) 20 (fun b_ => #[true, b_, false, false]) 1 2 false (b := b1) (q := q1) rfl rfl hT2 (fun _ _ => trivial) (by kernel_rfl) (fun b_ => by cases b_ <;> rfl) ?_ ?_
    all_goals simp only [fw1, Act.put, List.setIfInBounds_toArray, List.set_cons_zero, List.set_cons_succ, List.getElem_toArray, List.getElem_cons_zero, List.getElem_cons_succ]
    · intro q_ x_ hgx K hK
      refine wpOp_step (o := _) rfl (fun K' hK' => ?_)
      refine step_val (.slice (some ⟨x_.heap.size, 0, none⟩) 64 64) (x_.alloc (.cells (kc Z6) 5 (0, 0))) (by kernel_rfl) (by kernel_rfl) ?_
      exact hK' _ _ (hK _ _ ((Gr.refl _).alloc _) ⟨_, rfl, blk_new _ _, Nat.le_trans hG0.size hgx.size, by have := lt_of_block (hgx.blk hin); omega⟩)
    clear hT2
    intro b2 q2 x3 hg hT2 _
    replace hin := hg.blk hin
    replace hG0 := hG0.trans hg
    clear hg
    refine wpOp_step (o := _) rfl (fun K hK => ?_)
    refine step_val (.slice (some ⟨gi, 0, none⟩) 64 64) x3 (by kernel_rfl) (by kernel_rfl) ?_
    refine hK _ _ ⟨trivial, ?_⟩
    clear hK K
    simp only [Act.put, List.setIfInBounds_toArray, List.set_cons_zero, List.set_cons_succ, List.getElem_toArray, List.getElem_cons_zero, List.getElem_cons_succ]
    refine float_again (fun q u => Mk2 W0.heap.size gi u q) 20 (fun b_ => #[true, b_, true, false]) 1 3 true (b := b2) (q := q2) rfl rfl hT2 (fun _ _ => trivial) (by kernel_rfl) (fun b_ => by cases b_ <;> rfl) ?_ ?_
    all_goals simp only [fw1, Act.put, List.setIfInBounds_toArray, List.set_cons_zero, List.set_cons_succ, List.getElem_toArray, List.getElem_cons_zero, List.getElem_cons_succ]
    · intro q_ x_ hgx K hK
      refine wpOp_step (o := _) rfl (fun K' hK' => ?_)
      refine step_val (.slice (some ⟨x_.heap.size, 0, none⟩) 64 64) (x_.alloc (.cells (kc Z6) 5 (0, 0))) (by kernel_rfl) (by kernel_rfl) ?_
      exact hK' _ _ (hK _ _ ((Gr.refl _).alloc _) ⟨_, rfl, blk_new _ _, Nat.le_trans hG0.size hgx.size, by have := lt_of_block (hgx.blk hin); omega⟩)
    clear hT2
    intro b3 q3 x4 hg hT2 hall
    obtain rfl : b3 = true := hall (by trivial)
    obtain ⟨go, rfl, hon, hgo, hne⟩ := hT2 rfl
    clear hall hT2
    replace hin := hg.blk hin
    replace hG0 := hG0.trans hg
    clear hg
    refine wpOp_step (o := _) rfl (fun K hK => ?_)
    refine step_val (.slice (some ⟨go, 0, none⟩) 64 64) x4 (by kernel_rfl) (by kernel_rfl) ?_
    refine hK _ _ ⟨trivial, ?_⟩
    clear hK K
    simp only [Act.put, List.setIfInBounds_toArray, List.set_cons_zero, List.set_cons_succ, List.getElem_toArray, List.getElem_cons_zero, List.getElem_cons_succ]
    refine any_done (by kernel_rfl) ?_
    have hB2 : Bl w [⟨w.heap.size, kc Z32, 25⟩, ⟨gi, kc Z6, 5⟩, ⟨go, kc Z6, 5⟩] x4 := hB.join hG0 [⟨gi, kc Z6, 5⟩, ⟨go, kc Z6, 5⟩] (fun x hx => by
        simp only [List.mem_cons, List.not_mem_nil, or_false] at hx
        rcases hx with rfl | rfl
        · exact ⟨hin, hgi⟩
        · exact ⟨hon, hgo⟩) (List.pairwise_cons.2 ⟨fun y hy => by simp at hy; subst hy; exact fun e => hne e.symm, List.pairwise_singleton _ _⟩)
    replace lk := lk.gr hG0
    have hfar : Hid (∀ y : Addr, k6 B ≠ [] → a = some y → y.block ≠ gi ∧ y.block ≠ go) := fun y h1 h2 => by have := hold y h1 h2; exact ⟨by omega, by omega⟩
    clear hold hB hG0 hin hon hgi hgo hne
    have hB := hB2
    clear hB2
    replace hB : Hid (Bl w [⟨w.heap.size, kc Z32, 25⟩, ⟨gi, kc (YK (kxf B 54) 0), 5⟩, ⟨go, kc (YK (kxf B 92) 0), 5⟩] x4) := hB
    have hgx4 := hide (Gr.refl x4)
    replace lk := hide lk
    go_wp2_with fail
    go_loopw [9] (fun i wr => ∃ (k : Nat) (m1 m2 : List Int), k ≤ 64 ∧ i = .int .i64 k ∧ Hid (m1 = YK (kxf B 54) k) ∧ Hid (m2 = YK (kxf B 92) k) ∧ Hid (Lb wr a n c (k6 B)) ∧ Hid (Bl w [⟨w.heap.size, kc Z32, 25⟩, ⟨gi, kc m1, 5⟩, ⟨go, kc m2, 5⟩] wr)) (fun i _ => 64 - (intOf i).toNat)
    case atStart => exact ⟨0, _, _, by omega, rfl, rfl, rfl, lk, hB⟩
    case round =>
    clear hB lk hgx4
    obtain ⟨k, m1, m2, hk, rfl, hm1, hm2, lk, hB⟩ := hrel
    have hl1 : m1.length = 64 := by rw [unhide hm1]; exact YK_len _ _
    have hl2 : m2.length = 64 := by rw [unhide hm2]; exact YK_len _ _
    by_cases hl : k < 64
    · have kI : (k : Int) < 64 := by omega
      have kJ : 0 ≤ (k : Int) ∧ (k : Int) < 64 := by omega
      have h1 := (unhide hB).get 1 (x := ⟨gi, kc m1, 5⟩) rfl
      have c1 := kc_cell h1 k (by omega)
      have f1 := froz_of (i := k) h1
      have hn1 : Hid (m1.set k (kxb ((k6 B).getD k 0) 54) = YK (kxf B 54) (k + 1)) := by rw [unhide hm1]; exact rfl
      have hn2 : Hid (m2.set k (kxb ((k6 B).getD k 0) 92) = YK (kxf B 92) (k + 1)) := by rw [unhide hm2]; exact rfl
      have hB2 := (unhide hB).cell 1 (x := ⟨gi, kc m1, 5⟩) rfl k (.int .u8 (kxb ((k6 B).getD k 0) 54))
      simp only [List.set_cons_zero, List.set_cons_succ, kc_set] at hB2
      have h2 := hB2.get 2 (x := ⟨go, kc m2, 5⟩) rfl
      have c2 := kc_cell h2 k (by omega)
      have f2 := froz_of (i := k) h2
      have hB3 := hB2.cell 2 (x := ⟨go, kc m2, 5⟩) rfl k (.int .u8 (kxb ((k6 B).getD k 0) 92))
      simp only [List.set_cons_zero, List.set_cons_succ, kc_set] at hB3
      have hne : gi ≠ go := by
        have := List.pairwise_cons.1 (List.pairwise_cons.1 hB3.ne).2
        exact this.1 _ List.mem_cons_self
      -- the key's own bytes lie elsewhere
      have lk2 : Hid (Lb ((wr.setCell ⟨gi, k, none⟩ (.int .u8 (kxb ((k6 B).getD k 0) 54))).setCell ⟨go, k, none⟩ (.int .u8 (kxb ((k6 B).getD k 0) 92))) a n c (k6 B)) := by
        refine ⟨(unhide lk).len, (unhide lk).isB, ?_, (unhide lk).cap, (unhide lk).max⟩
        rcases (unhide lk).sl with h | ⟨p, o, e, h⟩
        · exact .inl h
        · refine .inr ⟨p, o, e, fun j hj => ?_⟩
          have hp := (unhide hfar) ⟨p, o, none⟩ (by intro e0; rw [e0] at hj; simp at hj) e
          have n1 : p ≠ gi := by have := hp.1; exact this
          have n2 : p ≠ go := by have := hp.2; exact this
          rw [cell_heap (Below.heap_setCell _ ⟨go, k, none⟩ _ p n2), cell_heap (Below.heap_setCell _ ⟨gi, k, none⟩ _ p n1)]
          exact h j hj
      generalize m1.getD k 0 = o1 at c1
      generalize m2.getD k 0 = o2 at c2
      clear h1 h2 hB2 hm1 hm2
      replace hB3 := hide hB3
      by_cases hlk : k < n
      · have kn : (k : Int) < (n : Int) := by omega
        have kn2 : 0 ≤ (k : Int) ∧ (k : Int) < (n : Int) := by omega
        obtain ⟨p, o, hpo, cc⟩ := (unhide lk).cellAt hlk
        cases hpo
        try rw [Nat.zero_add] at cc
        clear lk
        generalize (k6 B).getD k 0 = y at *
        unfold kxb at *
        go_wp2_with fail
        go_roundw
        case rel => exact ⟨k + 1, _, _, by omega, by go_num, hn1, hn2, lk2, hB3⟩
        case measure => simp [intOf]; omega
      · have kn : ¬ (k : Int) < (n : Int) := by omega
        have h0 : (k6 B).getD k 0 = 0 := by rw [List.getD_eq_getElem?_getD, List.getElem?_eq_none (by rw [(unhide lk).len]; omega)]; rfl
        rw [h0] at hn1 hn2 lk2 hB3 c2 f2
        clear lk
        unfold kxb at *
        go_wp2_with fail
        go_roundw
        case rel => exact ⟨k + 1, _, _, by omega, by go_num, hn1, hn2, lk2, hB3⟩
        case measure => simp [intOf]; omega
    · have e : k = 64 := by omega
      subst e
      have e1 : m1 = padK B 54 := (unhide hm1).trans (YK_all B 54)
      have e2 : m2 = padK B 92 := (unhide hm2).trans (YK_all B 92)
      have hB2 : Bl w [⟨w.heap.size, kc Z32, 25⟩, ⟨gi, kc (padK B 54), 5⟩, ⟨go, kc (padK B 92), 5⟩] wr := by rw [← e1, ← e2]; exact unhide hB
      clear hB hm1 hm2 e1 e2 lk hl1 hl2 hl hfar
      have hB := hide hB2
      clear hB2
      go_upto_region 14 with fail
      replace hB := unhide hB
      refine wp_region_lit ?_
      replace hB := hide hB
      iterate 2 (refine wpList_step fun K hK => ?_; replace hK := hide hK; go_simp; refine unhide hK _ _ ?_; clear hK K)
      replace hB := unhide hB
      refine list_call 93 #[.slice (some ⟨gi, 0, none⟩) 64 64, .slice b m d] (by kernel_rfl) (by kernel_rfl) ((both_ok (padK B 54) X (some ⟨gi, 0, none⟩) b 64 64 m d (by omega) _ (kc5_lb (hB.get 1 (x := ⟨gi, kc (padK B 54), 5⟩) rfl) (padK_len _ _) (padK_isB _ _)) ((unhide hX).gr hB.gr)).mono ?_)
      rintro r v1 ⟨y1, rfl, hO, hg⟩
      refine ⟨_, rfl, ?_⟩
      obtain ⟨a1, c1, rfl, l1⟩ := hO.lb (isB_append (padK_isB _ _) (unhide hX).isB)
      have hl1 : (padK B 54 ++ X).length = 64 + m := by rw [List.length_append, padK_len, (unhide hX).len]
      rw [hl1] at l1
      rw [hl1]
      replace hB := hB.more hg
      clear hg hO hl1
      simp only [Act.put, List.setIfInBounds_toArray, List.set_cons_zero, List.set_cons_succ, List.getElem_toArray, List.getElem_cons_zero, List.getElem_cons_succ]
      refine list_call 33 #[.slice a1 (64 + m) c1] (by kernel_rfl) (by kernel_rfl) ((rsum_ok (padK B 54 ++ X) l1.isB (64 + m) l1.len (by omega) a1 c1 _ l1.sl).mono ?_)
      rintro r v2 ⟨rfl, hg⟩
      refine ⟨_, rfl, ?_⟩
      replace hB := hB.more hg
      clear hg l1
      simp only [Act.put, List.setIfInBounds_toArray, List.set_cons_zero, List.set_cons_succ, List.getElem_toArray, List.getElem_cons_zero, List.getElem_cons_succ]
      have hSum : Hid (sumL (padK B 92 ++ sumL (padK B 54 ++ X)) = hmacL B X) := rfl
      obtain ⟨M, hM⟩ : ∃ M, M = sumL (padK B 54 ++ X) := ⟨_, rfl⟩
      have hMl : M.length = 32 := by rw [hM]; exact sumL_len _
      have hMb : Hid (IsB M) := by rw [hM]; exact sumL_isB _
      rw [← hM] at hSum
      rw [← hM]
      clear hM
      replace hB := hide hB
      iterate 1 (refine wpList_step fun K hK => ?_; replace hK := hide hK; go_simp; refine unhide hK _ _ ?_; clear hK K)
      replace hB := (unhide hB).new #[.int .u8 0, .int .u8 0, .int .u8 0, .int .u8 0, .int .u8 0, .int .u8 0, .int .u8 0, .int .u8 0, .int .u8 0, .int .u8 0, .int .u8 0, .int .u8 0, .int .u8 0, .int .u8 0, .int .u8 0, .int .u8 0, .int .u8 0, .int .u8 0, .int .u8 0, .int .u8 0, .int .u8 0, .int .u8 0, .int .u8 0, .int .u8 0, .int .u8 0, .int .u8 0, .int .u8 0, .int .u8 0, .int .u8 0, .int .u8 0, .int .u8 0, .int .u8 0] 25
      simp only [List.cons_append, List.nil_append] at hB
      generalize World.alloc _ _ = v3 at *
      generalize v2.heap.size = gs at *
      replace hB : Bl w [⟨w.heap.size, kc Z32, 25⟩, ⟨gi, kc (padK B 54), 5⟩, ⟨go, kc (padK B 92), 5⟩, ⟨gs, kc Z32, 25⟩] v3 := hB
      refine list_store 25 (.tmp 11) (.tmp 46) gs (kc M) 25 (kc Z32) (by kernel_rfl) rfl (by kernel_rfl) (by kernel_rfl) (hB.get 3 (x := ⟨gs, kc Z32, 25⟩) rfl) (by rw [Tryd.infoKey, kc_size, hMl]) ((show (kc Z32).size = 32 from rfl).trans ((kc_size _).trans hMl).symm) (kc_one _) ?_
      replace hB := hB.set 3 (x := ⟨gs, kc Z32, 25⟩) rfl (kc M)
      simp only [List.set_cons_zero, List.set_cons_succ] at hB
      generalize World.setRow _ _ _ = v4 at *
      simp only [Act.put, List.setIfInBounds_toArray, List.set_cons_zero, List.set_cons_succ, List.getElem_toArray, List.getElem_cons_zero, List.getElem_cons_succ]
      refine wpList_nil ?_
      replace hB := hide hB
      go_upto_region 15 with fail
      refine wp_region_lit ?_
      iterate 2 (refine wpList_step fun K hK => ?_; replace hK := hide hK; go_simp; refine unhide hK _ _ ?_; clear hK K)
      replace hB := unhide hB
      refine list_call 93 #[.slice (some ⟨go, 0, none⟩) 64 64, .slice (some ⟨gs, 0, none⟩) 32 32] (by kernel_rfl) (by kernel_rfl) ((both_ok (padK B 92) M (some ⟨go, 0, none⟩) (some ⟨gs, 0, none⟩) 64 64 32 32 (by omega) _ (kc5_lb (hB.get 2 (x := ⟨go, kc (padK B 92), 5⟩) rfl) (padK_len _ _) (padK_isB _ _)) ⟨hMl, unhide hMb, .inr ⟨gs, 0, rfl, kc_at (hB.get 3 (x := ⟨gs, kc M, 25⟩) rfl)⟩, by omega, by omega⟩).mono ?_)
      rintro r v5 ⟨y5, rfl, hO, hg⟩
      refine ⟨_, rfl, ?_⟩
      obtain ⟨a5, c5, rfl, l5⟩ := hO.lb (isB_append (padK_isB _ _) (unhide hMb))
      have hl5 : (padK B 92 ++ M).length = 96 := by rw [List.length_append, padK_len, hMl]
      rw [hl5] at l5
      rw [hl5]
      replace hB := hB.more hg
      clear hg hO hl5
      simp only [Act.put, List.setIfInBounds_toArray, List.set_cons_zero, List.set_cons_succ, List.getElem_toArray, List.getElem_cons_zero, List.getElem_cons_succ]
      refine list_call 33 #[.slice a5 96 c5] (by kernel_rfl) (by kernel_rfl) ((rsum_ok (padK B 92 ++ M) l5.isB 96 l5.len (by omega) a5 c5 _ l5.sl).mono ?_)
      rintro r v6 ⟨rfl, hg⟩
      refine ⟨_, rfl, ?_⟩
      replace hB := hB.more hg
      clear hg l5
      rw [unhide hSum]
      simp only [Act.put, List.setIfInBounds_toArray, List.set_cons_zero, List.set_cons_succ, List.getElem_toArray, List.getElem_cons_zero, List.getElem_cons_succ]
      have hRl : (hmacL B X).length = 32 := hmacL_len _ _
      obtain ⟨R, hR⟩ : ∃ R, R = hmacL B X := ⟨_, rfl⟩
      rw [← hR] at hRl
      rw [← hR]
      refine list_store 25 (.tmp 4) (.tmp 50) w.heap.size (kc R) 25 (kc Z32) (by kernel_rfl) rfl (by kernel_rfl) (by kernel_rfl) (hB.get 0 (x := ⟨w.heap.size, kc Z32, 25⟩) rfl) (by rw [Tryd.infoKey, kc_size, hRl]) ((show (kc Z32).size = 32 from rfl).trans ((kc_size _).trans hRl).symm) (kc_one _) ?_
      replace hB := hB.set 0 (x := ⟨w.heap.size, kc Z32, 25⟩) rfl (kc R)
      simp only [List.set_cons_zero, List.set_cons_succ] at hB
      generalize World.setRow _ _ _ = v7 at *
      simp only [Act.put, List.setIfInBounds_toArray, List.set_cons_zero, List.set_cons_succ, List.getElem_toArray, List.getElem_cons_zero, List.getElem_cons_succ]
      refine wpList_nil ?_
      go_wp2_with fail
      rw [unhide hT]
      exact bodyPost_ret (v := .agg (kc R)) (results_cell_row Tryd.results92 _ _ w.heap.size 25 (kc R) (0, 0) _ rfl (hB.get 0 (x := ⟨w.heap.size, kc R, 25⟩) rfl) Tryd.underlying25 rfl (by rw [Tryd.infoKey, kc_size, hRl])) rfl ⟨by rw [hR], hB.gr⟩
end Go.Proofs.YtpmgmpihmpifgaaDoor
