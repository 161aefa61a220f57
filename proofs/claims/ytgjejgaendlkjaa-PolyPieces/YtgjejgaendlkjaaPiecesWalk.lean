/-
  In whatever pieces bytes are written the code is that of all: the walk, over what a Code does.
-/
import Derived.Test.YtgjejgaendlkjaaPolyWk
namespace Go.Proofs.Ytgjejgaendlkjaa
open Go.RowKit
set_option maxRecDepth 100000
set_option linter.unusedSimpArgs false
set_option linter.unusedVariables false
/-- lists of bytes in a row -/
def Pq (w : World) (p o : Nat) (ps : List (List Int)) : Prop := ∀ j, j < ps.length → ∃ a n c, w.cell? ⟨p, o + j, none⟩ = some (.slice a n c) ∧ (ps.getD j []).length = n ∧ IsB (ps.getD j []) ∧ Sl w a (ps.getD j []) ∧ n ≤ c ∧ c < 9223372036854775808
theorem Pq.gr {w v : World} {p o : Nat} {ps : List (List Int)} (h : Pq w p o ps) (k : Gr w v) : Pq v p o ps := by
  intro j hj
  obtain ⟨a, n, c, h1, h2, h3, h4, h5⟩ := h j hj
  exact ⟨a, n, c, k.cell h1, h2, h3, h4.gr k, h5⟩
def Pr (w : World) (a : Option Addr) (ps : List (List Int)) : Prop := ps = [] ∨ ∃ p o, a = some ⟨p, o, none⟩ ∧ Pq w p o ps
theorem Pr.gr {w v : World} {a : Option Addr} {ps : List (List Int)} (h : Pr w a ps) (k : Gr w v) : Pr v a ps := by
  rcases h with h | ⟨p, o, h1, h2⟩
  · exact .inl h
  · exact .inr ⟨p, o, h1, h2.gr k⟩
theorem flat_next (ps : List (List Int)) (k : Nat) (h : k < ps.length) : (ps.take (k + 1)).flatten = (ps.take k).flatten ++ ps.getD k [] := by
  rw [List.take_add_one, List.getElem?_eq_getElem h, List.flatten_append]
  simp [h]
theorem Ob.but {b g : Nat} {w v : World} {x : Value} {L : List Int} (h : Ob b w x L) (k : Bt g w v) (hne : ∀ q, x.ownBlock = some q → q ≠ g) : Ob b v x L := by
  obtain ⟨h1, h2 | ⟨p, cap, cur, h2, h3, h4, h5⟩⟩ := h
  · exact ⟨h1, .inl h2⟩
  · exact ⟨h1, .inr ⟨p, cap, cur, h2, h3, k.blk h4 (hne p (by rw [h2]; rfl)), h5⟩⟩
/-- blocks of another kind stay as bytes are put behind others -/
theorem Bl.grown {w v v' : World} {L : List Blk} (h : Bl w L v) {b : Nat} {x : Value} {M : List Int} (ho : Ob b v x M) (hb : w.heap.size ≤ b) (k : v.grownBy v' x.ownBlock) (ht : ∀ y ∈ L, y.t ≠ 5) : Bl w L v' := by
  refine ⟨Ob.grown ho hb h.gr k, fun y hy => ?_, h.ne⟩
  obtain ⟨h1, h2⟩ := h.at_ y hy
  refine ⟨?_, h2⟩
  rw [k.block y.g (lt_of_block h1) ?_]
  · exact h1
  · intro e
    rcases ho.2 with ⟨rfl, _⟩ | ⟨g, cap, cur, rfl, _, h3, _⟩
    · cases e
    · have e2 : y.g = g := by simpa [Value.ownBlock] using e
      rw [e2] at h1
      rw [h3] at h1
      simp only [Blk.obj, Option.some.injEq, Obj.cells.injEq] at h1
      exact ht y hy h1.2.1.symm
/-- what the calls of a Code do: a block g of memory stands for its bytes -/
structure CodeOps (Cd : Nat → List Int → World → Prop) (K : List Int) : Prop where
  new : ∀ w, Calls Try.prog 14 #[.agg (kc K)] w (fun r w' => ∃ g, r = .returned (.pointer (some ⟨g, 0, none⟩)) ∧ w.heap.size ≤ g ∧ Cd g [] w' ∧ Gr w w')
  write : ∀ g L P s n cap w, Cd g L w → IsB L → Lb w s n cap P → (∀ q, s = some q → q.block ≠ g) → L.length + n ≤ 4096 → Calls Try.prog 15 #[.pointer (some ⟨g, 0, none⟩), .slice s n cap] w (fun r w' => r = .returned (.int .i64 0) ∧ Cd g (L ++ P) w' ∧ Bt g w w')
  tag : ∀ g L w, Cd g L w → IsB L → L.length ≤ 4096 → Calls Try.prog 16 #[.pointer (some ⟨g, 0, none⟩)] w (fun r w' => r = .returned (.agg (kc (mcL K L))) ∧ Gr w w')
  cell : ∀ g L w, Cd g L w → ∃ c, w.heap[g]? = some (.cells c 53 (0, 0))
  keep : ∀ g L w v, Cd g L w → v.heap[g]? = w.heap[g]? → Cd g L v
theorem CodeOps.gr {Cd : Nat → List Int → World → Prop} {K : List Int} (h : CodeOps Cd K) {g : Nat} {L : List Int} {w v : World} (c : Cd g L w) (k : Gr w v) : Cd g L v := by
  obtain ⟨d, hd⟩ := h.cell g L w c
  exact h.keep g L w v c ((k.blk hd).trans hd.symm)
theorem CodeOps.grown {Cd : Nat → List Int → World → Prop} {K : List Int} (h : CodeOps Cd K) {g : Nat} {L : List Int} {w v : World} (c : Cd g L w) {b : Nat} {x : Value} {M : List Int} (ho : Ob b w x M) (k : w.grownBy v x.ownBlock) : Cd g L v := by
  obtain ⟨d, hd⟩ := h.cell g L w c
  refine h.keep g L w v c (k.block g (lt_of_block hd) ?_)
  intro e
  rcases ho.2 with ⟨rfl, _⟩ | ⟨q, cap, cur, rfl, _, h3, _⟩
  · cases e
  · have e2 : g = q := by simpa [Value.ownBlock] using e
    rw [e2, h3] at hd
    simp only [Option.some.injEq, Obj.cells.injEq] at hd
    exact absurd hd.2.1 (by decide)
theorem CodeOps.off {Cd : Nat → List Int → World → Prop} {K : List Int} (h : CodeOps Cd K) {g : Nat} {L : List Int} {w v : World} (c : Cd g L w) (k : Bt g w v) {b : Nat} {x : Value} {M : List Int} (ho : Ob b w x M) : Ob b v x M := by
  refine ho.but k fun q hq e => ?_
  obtain ⟨d, hd⟩ := h.cell g L w c
  rcases ho.2 with ⟨rfl, _⟩ | ⟨q', cap, cur, rfl, _, h3, _⟩
  · cases hq
  · have e2 : q' = q := by simpa [Value.ownBlock] using hq
    rw [e2, e, hd] at h3
    simp only [Option.some.injEq, Obj.cells.injEq] at h3
    exact absurd h3.2.1 (by decide)
theorem Ob.lbs {b : Nat} {w : World} {a : Option Addr} {n c : Nat} {L : List Int} (h : Ob b w (.slice a n c) L) (hb : IsB L) : Lb w a n c L := by
  obtain ⟨a', c', e, l⟩ := h.lb hb
  cases e
  exact l
theorem Ob.ge {b : Nat} {w : World} {a : Option Addr} {n c : Nat} {L : List Int} (h : Ob b w (.slice a n c) L) : ∀ q, a = some q → b ≤ q.block := by
  intro q hq
  rcases h.2 with ⟨h1, _⟩ | ⟨g, cap, cur, h1, h2, _⟩
  · cases h1
    cases hq
  · cases h1
    cases hq
    exact h2
theorem Bl.bt1 {w u v : World} {g : Nat} {K : List Int} (h : Bl w [⟨w.heap.size, kc K, 23⟩] u) {c : Array Value} (hc : u.heap[g]? = some (.cells c 53 (0, 0))) (hg : w.heap.size ≤ g) (k : Bt g u v) : Bl w [⟨w.heap.size, kc K, 23⟩] v := by
  have h0 := h.get 0 (x := ⟨w.heap.size, kc K, 23⟩) rfl
  have hne : w.heap.size ≠ g := by
    rintro rfl
    rw [hc] at h0
    simp only [Option.some.injEq, Obj.cells.injEq] at h0
    exact absurd h0.2.1 (by decide)
  refine ⟨k.gr h.gr hg, fun x hx => ?_, List.pairwise_singleton _ _⟩
  rw [List.mem_singleton] at hx
  subst hx
  exact ⟨k.blk h0 hne, Nat.le_refl _⟩
theorem isB_append {B C : List Int} (h : IsB B) (k : IsB C) : IsB (B ++ C) := fun x hx => (List.mem_append.1 hx).elim (h x) (k x)
set_option maxHeartbeats 4000000 in
theorem pieces_of (K : List Int) (hK : K.length = 32) (hKb : IsB K) (Cd : Nat → List Int → World → Prop) (ops : CodeOps Cd K) (ps : List (List Int)) (a : Option Addr) (m cp : Nat) (hm : ps.length = m) (hmb : m < 4611686018427387904) (hps : ∀ p ∈ ps, p.length ≤ 140737488351232) (w : World) (hP : Pr w a ps) : Calls Try.prog 4 #[.agg (kc K), .slice a m cp] w (Woke w) := by
  obtain ⟨T, hT⟩ : ∃ T, T = Woke w := ⟨_, rfl⟩
  rw [← hT]
  replace hT := hide hT
  replace hKb := hide hKb
  replace hm := hide hm
  replace hP := hide hP
  replace hps := hide hps
  obtain ⟨SK, hSK⟩ : ∃ S, S = kc K := ⟨_, rfl⟩
  rw [← hSK]
  replace hSK := hide hSK
  go_enter Try.func4, Try.ntmps4
  go_upto_region 1 with fail
  have hB := (Bl.nil w).new SK 23
  simp only [List.nil_append] at hB
  generalize World.alloc _ _ = u at *
  rw [unhide hSK] at hB
  replace hB : Bl w [⟨w.heap.size, kc K, 23⟩] u := hB
  refine wp_region_lit ?_
  refine list_call 9 #[] (by kernel_rfl) (by kernel_rfl) ((wakes_ok _).mono ?_)
  rintro r v ⟨rfl, hg⟩
  refine ⟨_, rfl, ?_⟩
  replace hB := hB.more hg
  clear hg
  simp only [Act.put, List.setIfInBounds_toArray, List.set_cons_zero, List.set_cons_succ, List.getElem_toArray, List.getElem_cons_zero, List.getElem_cons_succ]
  refine list_val (.bool false) (by kernel_rfl) (by kernel_rfl) ?_
  simp only [Act.put, List.setIfInBounds_toArray, List.set_cons_zero, List.set_cons_succ, List.getElem_toArray, List.getElem_cons_zero, List.getElem_cons_succ]
  refine wpList_nil ?_
  replace hB := hide hB
  go_upto_region 3 with fail
  replace hB := unhide hB
  refine wp_region_lit ?_
  refine list_val (.agg (kc K)) (by kernel_rfl) (exec_arr _ 23 (.tmp 2) rfl (w.heap.size) (by kernel_rfl) (kc K) 23 _ (hB.get 0 (x := ⟨w.heap.size, kc K, 23⟩) rfl) Try.underlying23 rfl (by rw [Try.infoKey, kc_size, hK])) ?_
  simp only [Act.put, List.setIfInBounds_toArray, List.set_cons_zero, List.set_cons_succ, List.getElem_toArray, List.getElem_cons_zero, List.getElem_cons_succ]
  refine list_call 14 #[.agg (kc K)] (by kernel_rfl) (by kernel_rfl) ((ops.new _).mono ?_)
  rintro r v1 ⟨gc, rfl, hge, cd, hg⟩
  refine ⟨_, rfl, ?_⟩
  have hgc : w.heap.size ≤ gc := Nat.le_trans hB.gr.size hge
  replace hB := hB.more hg
  clear hg hge
  simp only [Act.put, List.setIfInBounds_toArray, List.set_cons_zero, List.set_cons_succ, List.getElem_toArray, List.getElem_cons_zero, List.getElem_cons_succ]
  (refine wpList_step fun K hK => ?_; replace hK := hide hK; go_simp; refine unhide hK _ _ ?_; clear hK K)
  refine wpList_nil ?_
  replace hB := hide hB
  replace cd := hide cd
  have ob0 : Hid (Ob w.heap.size v1 (.slice none 0 0) (ps.take 0).flatten) := ⟨rfl, .inl ⟨rfl, rfl⟩⟩
  replace cd : Hid (Cd gc (ps.take 0).flatten v1) := cd
  go_wp2_with fail
  go_loopw [18, 6] (fun i o wr => ∃ i' : Nat, ∃ v : Value, ∃ L : List Int, i' ≤ m ∧ i = .int .i64 i' ∧ v = o ∧ Hid (L = (ps.take i').flatten) ∧ Hid (IsB L) ∧ Hid (L.length ≤ 4096) ∧ Hid (Ob w.heap.size wr v L) ∧ Hid (Cd gc L wr) ∧ Hid (Bl w [⟨w.heap.size, kc K, 23⟩] wr)) (fun i _ _ => m - (intOf i).toNat)
  case atStart => exact ⟨0, _, _, by omega, rfl, rfl, rfl, (by intro x hx; cases hx), (show ([] : List Int).length ≤ 4096 by simp), ob0, cd, hB⟩
  case round =>
  clear hB cd ob0
  obtain ⟨i, v, L, hi, rfl, rfl, hL, hLb, hL4, ob, cd, hB⟩ := hrel
  by_cases hil : i < m
  · have iI : (i : Int) < (m : Int) := by omega
    obtain ⟨pp, po, rfl, hq⟩ : ∃ pp po, a = some ⟨pp, po, none⟩ ∧ Pq w pp po ps := by
      rcases unhide hP with h | h
      · have := unhide hm
        rw [h] at this
        simp at this
        omega
      · exact h
    obtain ⟨pa, np, pc, c0, p1, p2, p3, p4, p5⟩ := hq i (by rw [unhide hm]; exact hil)
    obtain ⟨P, hPe⟩ : ∃ P, P = ps.getD i [] := ⟨_, rfl⟩
    have hi2 : i < ps.length := by rw [unhide hm]; exact hil
    have hmem : ps.getD i [] ∈ ps := by
      rw [List.getD_eq_getElem?_getD, List.getElem?_eq_getElem hi2]
      exact List.getElem_mem hi2
    have hnp : np ≤ 140737488351232 := by
      rw [← p1]
      exact (unhide hps) _ hmem
    clear hmem hi2
    rw [← hPe] at p1 p2 p3
    have lp : Lb w pa np pc P := ⟨p1, p2, p3, p4, p5⟩
    have hL2 : Hid (L ++ P = (ps.take (i + 1)).flatten) := by
      rw [flat_next ps i (by rw [unhide hm]; exact hil), ← unhide hL, ← hPe]
      exact rfl
    replace c0 := (unhide hB).gr.cell c0
    clear p1 p2 p3 hq hPe
    have hLb := unhide hLb
    have hLb2 : IsB (L ++ P) := isB_append hLb lp.isB
    obtain ⟨a6, c6, rfl, _⟩ := (unhide ob).lb hLb
    obtain ⟨n6, hn6⟩ : ∃ x, x = L.length := ⟨_, rfl⟩
    rw [← hn6] at ob ⊢
    have hLl : L.length = n6 := hn6.symm
    have hn64 : n6 ≤ 4096 := by rw [hn6]; exact unhide hL4
    obtain ⟨n7, hn7⟩ : ∃ x, x = n6 + np := ⟨_, rfl⟩
    have e1 : (n6 : Int) + (np : Int) = (n7 : Int) := by omega
    replace hn6 := hide hn6
    by_cases hbig : 4096 < n7
    · have hI : (4096 : Int) < (n7 : Int) := by omega
      have e2 : IntKind.i64.wrap (n7 : Int) = (n7 : Int) := by rw [IntKind.wrap_i64]; omega
      replace hn7 := hide hn7
      replace lp := hide lp
      replace hLl := hide hLl
      go_wp2_with fail
      rw [unhide hT]
      exact ⟨rfl, (unhide hB).gr⟩
    have hI : ¬ (4096 : Int) < (n7 : Int) := by omega
    have e2 : IntKind.i64.wrap (n7 : Int) = (n7 : Int) := by rw [IntKind.wrap_i64]; omega
    replace hn7 := hide hn7
    replace lp := hide lp
    replace hLl := hide hLl
    go_upto_region 12 with fail
    replace lp := unhide lp
    replace hLl := unhide hLl
    replace hB := unhide hB
    replace cd := unhide cd
    replace ob := unhide ob
    refine wp_region_lit ?_
    refine list_val (.slice a6 n6 c6) (by kernel_rfl) (by kernel_rfl) ?_
    simp only [Act.put, List.setIfInBounds_toArray, List.set_cons_zero, List.set_cons_succ, List.getElem_toArray, List.getElem_cons_zero, List.getElem_cons_succ]
    refine list_val (.slice pa np pc) (by kernel_rfl) (by kernel_rfl) ?_
    simp only [Act.put, List.setIfInBounds_toArray, List.set_cons_zero, List.set_cons_succ, List.getElem_toArray, List.getElem_cons_zero, List.getElem_cons_succ]
    refine app_bs (by kernel_rfl) (.tmp 28) (.tmp 29) rfl w.heap.size _ L rfl ob _ np pc P rfl lp.len (lp.gr hB.gr).sl (by rw [hLl]; omega) hB.gr.size ?_
    intro x2 v2 ob2 hgr
    simp only [Act.put, List.setIfInBounds_toArray, List.set_cons_zero, List.set_cons_succ, List.getElem_toArray, List.getElem_cons_zero, List.getElem_cons_succ]
    replace cd := ops.grown cd ob hgr
    replace hB := hB.grown ob (Nat.le_refl _) hgr (by intro z hz; rw [List.mem_singleton] at hz; subst hz; dsimp only; decide)
    clear hgr ob
    obtain ⟨a7, c7, rfl, l7⟩ := ob2.lb hLb2
    have hL7 : (L ++ P).length = n7 := by rw [List.length_append, hLl, lp.len]; exact (unhide hn7).symm
    rw [hL7] at l7 ob2 ⊢
    replace hL7 := hide hL7
    (refine wpList_step fun K hK => ?_; replace hK := hide hK; go_simp; refine unhide hK _ _ ?_; clear hK K)
    refine wpList_nil ?_
    replace hB := hide hB
    replace cd := hide cd
    replace ob2 := hide ob2
    replace l7 := hide l7
    go_upto_region 13 with fail
    replace hB := unhide hB
    replace cd := unhide cd
    replace ob2 := unhide ob2
    replace l7 := unhide l7
    refine wp_region_lit ?_
    refine list_val (.pointer (some ⟨gc, 0, none⟩)) (by kernel_rfl) (by kernel_rfl) ?_
    simp only [Act.put, List.setIfInBounds_toArray, List.set_cons_zero, List.set_cons_succ, List.getElem_toArray, List.getElem_cons_zero, List.getElem_cons_succ]
    refine list_valw (.slice (some ⟨v2.heap.size, 0, none⟩) 0 0) (v2.alloc (.cells (kc []) 5 (0, 0))) (by kernel_rfl) (by kernel_rfl) ?_
    simp only [Act.put, List.setIfInBounds_toArray, List.set_cons_zero, List.set_cons_succ, List.getElem_toArray, List.getElem_cons_zero, List.getElem_cons_succ]
    have hG := (Gr.refl v2).alloc (.cells (kc []) 5 (0, 0))
    have ob3 : Ob v2.heap.size (v2.alloc (.cells (kc []) 5 (0, 0))) (.slice (some ⟨v2.heap.size, 0, none⟩) 0 0) [] := ob_of (blk_new _ _) rfl (Nat.le_refl _) (by omega)
    generalize World.alloc _ _ = v3 at *
    generalize hgz : v2.heap.size = g0 at *
    have hgv : v2.heap.size ≤ g0 := Nat.le_of_eq hgz
    refine list_val (.slice pa np pc) (by kernel_rfl) (by kernel_rfl) ?_
    simp only [Act.put, List.setIfInBounds_toArray, List.set_cons_zero, List.set_cons_succ, List.getElem_toArray, List.getElem_cons_zero, List.getElem_cons_succ]
    refine app_bs (by kernel_rfl) (.tmp 32) (.tmp 33) rfl g0 _ [] rfl ob3 _ np pc P rfl lp.len ((lp.gr hB.gr).gr hG).sl (by simp; omega) (by rw [← hgz]; exact hG.size) ?_
    intro x4 v4 ob4 hgr
    simp only [Act.put, List.setIfInBounds_toArray, List.set_cons_zero, List.set_cons_succ, List.getElem_toArray, List.getElem_cons_zero, List.getElem_cons_succ]
    have hgcl : gc < g0 := by obtain ⟨d, hd⟩ := ops.cell _ _ _ cd; have := lt_of_block hd; omega
    replace hG := Ob.grown ob3 hgv hG hgr
    clear hgr ob3
    rw [List.nil_append] at ob4
    obtain ⟨a8, c8, rfl, l8⟩ := ob4.lb lp.isB
    have hge8 := ob4.ge
    rw [lp.len] at l8 ⊢
    replace hB := hB.more hG
    replace cd := ops.gr cd hG
    replace ob2 := ob2.gr hG
    replace l7 := l7.gr hG
    clear hG ob4 hgz hgv
    refine list_call 15 #[.pointer (some ⟨gc, 0, none⟩), .slice a8 np c8] (by kernel_rfl) (by kernel_rfl) ((ops.write gc L P a8 np c8 _ cd hLb l8 (fun q hq => by have := hge8 q hq; omega) (by rw [hLl]; have := unhide hn7; omega)).mono ?_)
    rintro r v5 ⟨rfl, cd2, hbt⟩
    refine ⟨_, rfl, ?_⟩
    obtain ⟨dd, hdd⟩ := ops.cell _ _ _ cd
    replace ob2 := ops.off cd hbt ob2
    replace hB := hB.bt1 hdd hgc hbt
    have l9 := ob2.lbs hLb2
    clear hdd hbt cd l8 hge8 hgcl l7
    simp only [Act.put, List.setIfInBounds_toArray, List.set_cons_zero, List.set_cons_succ, List.getElem_toArray, List.getElem_cons_zero, List.getElem_cons_succ]
    refine list_val (.bool false) (by kernel_rfl) (by kernel_rfl) ?_
    simp only [Act.put, List.setIfInBounds_toArray, List.set_cons_zero, List.set_cons_succ, List.getElem_toArray, List.getElem_cons_zero, List.getElem_cons_succ]
    refine wpList_nil ?_
    have l7 : Lb v5 a7 n7 c7 (L ++ P) := l9
    clear l9
    replace hB := hide hB
    replace cd2 := hide cd2
    replace ob2 := hide ob2
    replace l7 := hide l7
    go_upto_region 15 with fail
    replace hB := unhide hB
    replace cd2 := unhide cd2
    replace ob2 := unhide ob2
    replace l7 := unhide l7
    refine wp_region_lit ?_
    refine list_val (.agg (kc K)) (by kernel_rfl) (exec_arr _ 23 (.tmp 2) rfl (w.heap.size) (by kernel_rfl) (kc K) 23 _ (hB.get 0 (x := ⟨w.heap.size, kc K, 23⟩) rfl) Try.underlying23 rfl (by rw [Try.infoKey, kc_size, hK])) ?_
    simp only [Act.put, List.setIfInBounds_toArray, List.set_cons_zero, List.set_cons_succ, List.getElem_toArray, List.getElem_cons_zero, List.getElem_cons_succ]
    refine list_val (.slice a7 n7 c7) (by kernel_rfl) (by kernel_rfl) ?_
    simp only [Act.put, List.setIfInBounds_toArray, List.set_cons_zero, List.set_cons_succ, List.getElem_toArray, List.getElem_cons_zero, List.getElem_cons_succ]
    refine list_call 11 #[.agg (kc K), .slice a7 n7 c7] (by kernel_rfl) (by kernel_rfl) ((rmac_ok K (L ++ P) hK (unhide hKb) a7 n7 c7 (by omega) _ l7).mono ?_)
    rintro r v6 ⟨rfl, hg⟩
    refine ⟨_, rfl, ?_⟩
    replace hB := hB.more hg
    replace cd2 := ops.gr cd2 hg
    replace ob2 := ob2.gr hg
    clear hg l7
    have hDl : (mcL K (L ++ P)).length = 16 := tgL_len _
    obtain ⟨D, hD⟩ : ∃ D, D = mcL K (L ++ P) := ⟨_, rfl⟩
    rw [← hD] at hDl ⊢
    replace hD := hide hD
    simp only [Act.put, List.setIfInBounds_toArray, List.set_cons_zero, List.set_cons_succ, List.getElem_toArray, List.getElem_cons_zero, List.getElem_cons_succ]
    replace hB := hide hB
    replace cd2 := hide cd2
    replace ob2 := hide ob2
    (refine wpList_step fun K hK => ?_; replace hK := hide hK; go_simp; refine unhide hK _ _ ?_; clear hK K)
    replace cd2 := unhide cd2
    replace ob2 := unhide ob2
    have hG := (Gr.refl v6).alloc (.cells #[.int .u8 0, .int .u8 0, .int .u8 0, .int .u8 0, .int .u8 0, .int .u8 0, .int .u8 0, .int .u8 0, .int .u8 0, .int .u8 0, .int .u8 0, .int .u8 0, .int .u8 0, .int .u8 0, .int .u8 0, .int .u8 0] 27 (0, 0))
    replace hB := (unhide hB).new #[.int .u8 0, .int .u8 0, .int .u8 0, .int .u8 0, .int .u8 0, .int .u8 0, .int .u8 0, .int .u8 0, .int .u8 0, .int .u8 0, .int .u8 0, .int .u8 0, .int .u8 0, .int .u8 0, .int .u8 0, .int .u8 0] 27
    simp only [List.nil_append, List.cons_append] at hB
    generalize World.alloc _ _ = v7 at *
    have hg9 := Nat.le_refl v6.heap.size
    generalize hz9 : v6.heap.size = h9 at hB ⊢
    rw [hz9] at hg9
    replace hz9 : v6.heap.size ≤ h9 := Nat.le_of_eq hz9
    replace hB : Bl w [⟨w.heap.size, kc K, 23⟩, ⟨h9, kc ZT, 27⟩] v7 := hB
    replace hG := hG.row h9 hz9 (kc D)
    refine list_store 27 (.tmp 9) (.tmp 39) (h9) (kc D) 27 (kc ZT) (by kernel_rfl) rfl (by kernel_rfl) (by kernel_rfl) (hB.get 1 (x := ⟨h9, kc ZT, 27⟩) rfl) (by rw [Try.infoT, kc_size, hDl]) ((show (kc ZT).size = 16 from rfl).trans ((kc_size _).trans hDl).symm) (kc_one _) ?_
    replace hB := hB.set 1 (x := ⟨h9, kc ZT, 27⟩) rfl (kc D)
    simp only [List.set_cons_zero, List.set_cons_succ] at hB
    generalize World.setRow _ _ _ = v8 at *
    simp only [Act.put, List.setIfInBounds_toArray, List.set_cons_zero, List.set_cons_succ, List.getElem_toArray, List.getElem_cons_zero, List.getElem_cons_succ]
    replace cd2 := ops.gr cd2 hG
    replace ob2 := ob2.gr hG
    clear hG hg9 hz9
    refine wpList_nil ?_
    replace hB := hide hB
    replace cd2 := hide cd2
    replace ob2 := hide ob2
    go_upto_region 16 with fail
    replace hB := unhide hB
    replace cd2 := unhide cd2
    replace ob2 := unhide ob2
    refine any_start (S := fun v => Bl w [⟨w.heap.size, kc K, 23⟩, ⟨h9, kc D, 27⟩] v) (by kernel_rfl) ?_
    replace hB := hB.drew
    replace cd2 := ops.gr cd2 (Gr.refl _).drew
    replace ob2 := ob2.gr (Gr.refl _).drew
    generalize World.drew _ = v9 at *
    simp only [List.size_toArray, List.length_cons, List.length_nil, Array.replicate, List.replicate]
    refine any_take (i := 0) (v := (.pointer (some ⟨gc, 0, none⟩))) #[false, false, false, false, false, false, false, false, false, false] rfl (by kernel_rfl) (by kernel_rfl) (by kernel_rfl) (by kernel_rfl) (fun _ _ _ h => h) (.inl ⟨by kernel_rfl, fun x_ hu => by kernel_rfl⟩) hB ?_
    simp only [Act.put, List.setIfInBounds_toArray, List.set_cons_zero, List.set_cons_succ, List.getElem_toArray, List.getElem_cons_zero, List.getElem_cons_succ]
    refine any_take (i := 2) (v := (.agg (kc D))) #[true, false, false, false, false, false, false, false, false, false] rfl (by kernel_rfl) (by kernel_rfl) (by kernel_rfl) (by kernel_rfl) (fun _ _ _ h => h) (.inl ⟨by kernel_rfl, fun x_ hu => exec_arr _ 27 (.tmp 9) rfl (h9) (by kernel_rfl) (kc D) 27 _ (hu.get 1 (x := ⟨h9, kc D, 27⟩) rfl) Try.underlying27 rfl (by rw [Try.infoT, kc_size, hDl])⟩) hB ?_
    simp only [Act.put, List.setIfInBounds_toArray, List.set_cons_zero, List.set_cons_succ, List.getElem_toArray, List.getElem_cons_zero, List.getElem_cons_succ]
    refine any_one (i := 1) (by kernel_rfl) rfl (fun K_ hQ => ?_)
    refine step_callw (by kernel_rfl) 16 #[.pointer (some ⟨gc, 0, none⟩)] (by kernel_rfl) ((ops.tag gc (L ++ P) _ cd2 hLb2 (by rw [unhide hL7]; omega)).mono ?_)
    rintro r u1 ⟨rfl, hg⟩
    refine ⟨_, rfl, ?_⟩
    replace hB := hB.more hg
    replace cd2 := ops.gr cd2 hg
    replace ob2 := ob2.gr hg
    clear hg
    rw [← unhide hD]
    refine hQ.out _ _ hB (fun _ => ?_)
    clear hQ K_
    simp only [Act.put, List.setIfInBounds_toArray, List.set_cons_zero, List.set_cons_succ, List.getElem_toArray, List.getElem_cons_zero, List.getElem_cons_succ]
    refine any_take (i := 3) (v := (.bool false)) #[true, true, true, false, false, false, false, false, false, false] rfl (by kernel_rfl) (by kernel_rfl) (by kernel_rfl) (by kernel_rfl) (fun _ _ _ h => h) (.inl ⟨by kernel_rfl, fun x_ hu => by have e := refl_T D hDl; go_simp⟩) hB ?_
    simp only [Act.put, List.setIfInBounds_toArray, List.set_cons_zero, List.set_cons_succ, List.getElem_toArray, List.getElem_cons_zero, List.getElem_cons_succ]
    refine any_take (i := 4) (v := (.bool false)) #[true, true, true, true, false, false, false, false, false, false] rfl (by kernel_rfl) (by kernel_rfl) (by kernel_rfl) (by kernel_rfl) (fun _ _ _ h => h) (.inl ⟨by kernel_rfl, fun x_ hu => by kernel_rfl⟩) hB ?_
    simp only [Act.put, List.setIfInBounds_toArray, List.set_cons_zero, List.set_cons_succ, List.getElem_toArray, List.getElem_cons_zero, List.getElem_cons_succ]
    refine any_take (i := 5) (v := (.pointer (some ⟨gc, 0, none⟩))) #[true, true, true, true, true, false, false, false, false, false] rfl (by kernel_rfl) (by kernel_rfl) (by kernel_rfl) (by kernel_rfl) (fun _ _ _ h => h) (.inl ⟨by kernel_rfl, fun x_ hu => by kernel_rfl⟩) hB ?_
    simp only [Act.put, List.setIfInBounds_toArray, List.set_cons_zero, List.set_cons_succ, List.getElem_toArray, List.getElem_cons_zero, List.getElem_cons_succ]
    refine any_take (i := 7) (v := (.agg (kc D))) #[true, true, true, true, true, true, false, false, false, false] rfl (by kernel_rfl) (by kernel_rfl) (by kernel_rfl) (by kernel_rfl) (fun _ _ _ h => h) (.inl ⟨by kernel_rfl, fun x_ hu => exec_arr _ 27 (.tmp 9) rfl (h9) (by kernel_rfl) (kc D) 27 _ (hu.get 1 (x := ⟨h9, kc D, 27⟩) rfl) Try.underlying27 rfl (by rw [Try.infoT, kc_size, hDl])⟩) hB ?_
    simp only [Act.put, List.setIfInBounds_toArray, List.set_cons_zero, List.set_cons_succ, List.getElem_toArray, List.getElem_cons_zero, List.getElem_cons_succ]
    refine any_one (i := 6) (by kernel_rfl) rfl (fun K_ hQ => ?_)
    refine step_callw (by kernel_rfl) 16 #[.pointer (some ⟨gc, 0, none⟩)] (by kernel_rfl) ((ops.tag gc (L ++ P) _ cd2 hLb2 (by rw [unhide hL7]; omega)).mono ?_)
    rintro r u2 ⟨rfl, hg⟩
    refine ⟨_, rfl, ?_⟩
    replace hB := hB.more hg
    replace cd2 := ops.gr cd2 hg
    replace ob2 := ob2.gr hg
    clear hg
    rw [← unhide hD]
    refine hQ.out _ _ hB (fun _ => ?_)
    clear hQ K_
    simp only [Act.put, List.setIfInBounds_toArray, List.set_cons_zero, List.set_cons_succ, List.getElem_toArray, List.getElem_cons_zero, List.getElem_cons_succ]
    refine any_take (i := 8) (v := (.bool false)) #[true, true, true, true, true, true, true, true, false, false] rfl (by kernel_rfl) (by kernel_rfl) (by kernel_rfl) (by kernel_rfl) (fun _ _ _ h => h) (.inl ⟨by kernel_rfl, fun x_ hu => by have e := refl_T D hDl; go_simp⟩) hB ?_
    simp only [Act.put, List.setIfInBounds_toArray, List.set_cons_zero, List.set_cons_succ, List.getElem_toArray, List.getElem_cons_zero, List.getElem_cons_succ]
    refine any_take (i := 9) (v := (.bool false)) #[true, true, true, true, true, true, true, true, true, false] rfl (by kernel_rfl) (by kernel_rfl) (by kernel_rfl) (by kernel_rfl) (fun _ _ _ h => h) (.inl ⟨by kernel_rfl, fun x_ hu => by kernel_rfl⟩) hB ?_
    simp only [Act.put, List.setIfInBounds_toArray, List.set_cons_zero, List.set_cons_succ, List.getElem_toArray, List.getElem_cons_zero, List.getElem_cons_succ]
    refine any_done (by kernel_rfl) ?_
    have hB3 : Hid (Bl w [⟨w.heap.size, kc K, 23⟩] u2) := Bl.left (L := [⟨w.heap.size, kc K, 23⟩]) (M := [⟨h9, kc D, 27⟩]) hB
    have hL8 : Hid ((L ++ P).length ≤ 4096) := by rw [unhide hL7]; exact (show n7 ≤ 4096 by omega)
    have hLb3 : Hid (IsB (L ++ P)) := hLb2
    replace cd2 := hide cd2
    replace ob2 := hide ob2
    clear hB hLb2 hLb hn7 lp hLl
    go_wp2_with fail
    go_roundw
    case rel => exact ⟨i + 1, _, L ++ P, by omega, by go_num, rfl, hL2, hLb3, hL8, ob2, cd2, hB3⟩
    case measure => simp [intOf]; omega
  have iI : ¬ (i : Int) < (m : Int) := by omega
  go_wp2_with fail
  rw [unhide hT]
  exact ⟨rfl, (unhide hB).gr⟩
end Go.Proofs.Ytgjejgaendlkjaa
