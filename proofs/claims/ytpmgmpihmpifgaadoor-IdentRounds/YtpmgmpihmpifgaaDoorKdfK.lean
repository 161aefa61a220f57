/-
  The document's spread.
-/
import Derived.Test.YtpmgmpihmpifgaaDoorKdfFl2
namespace Go.Proofs.YtpmgmpihmpifgaaDoor
open Go.RowKit
set_option maxRecDepth 100000
set_option linter.unusedSimpArgs false
set_option linter.unusedVariables false

/-- a byte lies in a row of one -/
def Yl (u : World) (q : Value) (y : Int) : Prop := ∃ g, q = .slice (some ⟨g, 0, none⟩) 1 1 ∧ u.heap[g]? = some (.cells (kc [y]) 5 (0, 0))
theorem Yl.gr {u v : World} {q : Value} {y : Int} (h : Yl u q y) (k : Gr u v) : Yl v q y := by
  obtain ⟨g, h1, h2⟩ := h
  exact ⟨g, h1, k.blk h2⟩
/-- an empty key is made -/
def Kl (s : Nat) (u : World) (q : Value) : Prop := ∃ g, q = .pointer (some ⟨g, 0, none⟩) ∧ u.heap[g]? = some (.cells (kc Z32) 25 (0, 0)) ∧ s ≤ g
theorem Kl.gr {s : Nat} {u v : World} {q : Value} (h : Kl s u q) (k : Gr u v) : Kl s v q := by
  obtain ⟨g, h1, h2, h3⟩ := h
  exact ⟨g, h1, k.blk h2, h3⟩
def Rexp (K I : List Int) (n : Nat) (w : World) (r : Ending) (w' : World) : Prop := ∃ a c, r = .returned (.slice a n c) ∧ Lb w' a n c (spL K I n) ∧ Gr w w'
structure EI (w : World) (K I : List Int) (i : Nat) (a7 : Option Addr) (c7 : Nat) (a8 : Option Addr) (n8 c8 : Nat) (v : World) : Prop where
  la : Lb v a7 (32 * i) c7 (outT K I i)
  lb : Lb v a8 n8 c8 (lastT K I i)
  bk : v.heap[w.heap.size]? = some (.cells (kc K) 25 (0, 0))
  gr : Gr w v
theorem EI.more {w : World} {K I : List Int} {i : Nat} {a7 : Option Addr} {c7 : Nat} {a8 : Option Addr} {n8 c8 : Nat} {u v : World} (h : EI w K I i a7 c7 a8 n8 c8 u) (k : Gr u v) : EI w K I i a7 c7 a8 n8 c8 v :=
  ⟨h.la.gr k, h.lb.gr k, k.blk h.bk, h.gr.trans k⟩
set_option maxHeartbeats 4000000 in
theorem rexpand_ok (K : List Int) (hKl : K.length = 32) (hKb : IsB K) (I : List Int) (a : Option Addr) (ni ci : Nat) (n : Nat) (hn : n ≤ 8160) (hni : ni ≤ 900000) (w : World) (hI : Lb w a ni ci I) :
    Calls Tryd.prog 74 #[.agg (kc K), .slice a ni ci, .int .i64 n] w (Rexp K I n w) := by
  obtain ⟨T, hT⟩ : ∃ T, T = Rexp K I n w := ⟨_, rfl⟩
  rw [← hT]
  obtain ⟨KK, hKK⟩ : ∃ KK, KK = kc K := ⟨_, rfl⟩
  rw [← hKK]
  have hKs : KK.size = 32 := by rw [hKK, kc_size, hKl]
  replace hT := hide hT
  replace hI := hide hI
  replace hKK := hide hKK
  replace hKb := hide hKb
  go_enter Tryd.func74, Tryd.ntmps74
  go_upto_region 1 with fail
  have hB := (Bl.nil w).new KK 25
  simp only [List.nil_append] at hB
  generalize World.alloc _ _ = u1 at *
  have hS : Hid (EI w K I 0 none 0 none 0 0 u1) := ⟨Lb.nil _, Lb.nil _, (by rw [← unhide hKK]; exact hB.get 0 (x := ⟨w.heap.size, KK, 25⟩) rfl), hB.gr⟩
  clear hB
  go_wp2_with fail
  go_loopw [7, 8, 9] (fun x y z wr => ∃ (i : Nat) (a7 : Option Addr) (c7 : Nat) (a8 : Option Addr) (n8 c8 : Nat), i ≤ (n + 31) / 32 ∧ x = .slice a7 (32 * i) c7 ∧ y = .slice a8 n8 c8 ∧ z = .int .i64 ((i + 1 : Nat) : Int) ∧ Hid (EI w K I i a7 c7 a8 n8 c8 wr)) (fun x _ _ _ => n + 32 - slenV x)
  case atStart => exact ⟨0, none, 0, none, 0, 0, by omega, rfl, rfl, rfl, hS⟩
  case round =>
  clear hS
  obtain ⟨i, a7, c7, a8, n8, c8, hi, rfl, rfl, rfl, hS⟩ := hrel
  by_cases hl : 32 * i < n
  · have lI : 32 * (i : Int) < (n : Int) := by omega
    have e1 : IntKind.i64.wrap ((i : Int) + 1 + 1) = (i : Int) + 1 + 1 := by rw [IntKind.wrap_i64]; omega
    obtain ⟨y, hy⟩ : ∃ y : Int, y = (((i + 1) % 256 : Nat) : Int) := ⟨_, rfl⟩
    have e2 : IntKind.u8.wrap ((i : Int) + 1) = y := by rw [IntKind.wrap_u8', hy]; omega
    have hyb : 0 ≤ y ∧ y < 256 := by omega
    have h8 : n8 ≤ 32 := by
      have h1 : (lastT K I i).length ≤ 32 := by
        cases i with
        | zero => simp [lastT]
        | succ j => rw [lastT_len]; omega
      rw [← (unhide hS).lb.len]
      exact h1
    have hnx : Hid (hmacL K (lastT K I i ++ I ++ [y]) = lastT K I (i + 1)) := by
      rw [List.append_assoc, hy]
      exact rfl
    replace hy := hide hy
    go_upto_region 5 with fail
    refine any_start (S := fun _ => True) (by kernel_rfl) ?_
    replace hS := (unhide hS).more (Gr.refl _).drew
    generalize World.drew _ = W0 at *
    have hS0 := hide hS
    simp only [List.size_toArray, List.length_cons, List.length_nil, Array.replicate, List.replicate]
    refine any_take (i := 0) (v := (.slice (some ⟨w.heap.size, 0, none⟩) 32 32)) #[false, false, false, false, false, false, false, false, false, false, false] rfl (by kernel_rfl) (by kernel_rfl) (by kernel_rfl) (by kernel_rfl) (fun _ _ _ h => h) (.inl ⟨by kernel_rfl, fun x_ hu => by go_simp⟩) trivial ?_
    simp only [Act.put, List.setIfInBounds_toArray, List.set_cons_zero, List.set_cons_succ, List.getElem_toArray, List.getElem_cons_zero, List.getElem_cons_succ]
    refine any_take (i := 1) (v := (.slice a8 n8 c8)) #[true, false, false, false, false, false, false, false, false, false, false] rfl (by kernel_rfl) (by kernel_rfl) (by kernel_rfl) (by kernel_rfl) (fun _ _ _ h => h) (.inl ⟨by kernel_rfl, fun x_ hu => by kernel_rfl⟩) trivial ?_
    simp only [Act.put, List.setIfInBounds_toArray, List.set_cons_zero, List.set_cons_succ, List.getElem_toArray, List.getElem_cons_zero, List.getElem_cons_succ]
    refine any_take (i := 2) (v := (.slice a ni ci)) #[true, true, false, false, false, false, false, false, false, false, false] rfl (by kernel_rfl) (by kernel_rfl) (by kernel_rfl) (by kernel_rfl) (fun _ _ _ h => h) (.inl ⟨by kernel_rfl, fun x_ hu => by kernel_rfl⟩) trivial ?_
    simp only [Act.put, List.setIfInBounds_toArray, List.set_cons_zero, List.set_cons_succ, List.getElem_toArray, List.getElem_cons_zero, List.getElem_cons_succ]
    refine any_take (i := 4) (v := (.int .i64 ((i + 1 : Nat) : Int))) #[true, true, true, false, false, false, false, false, false, false, false] rfl (by kernel_rfl) (by kernel_rfl) (by kernel_rfl) (by kernel_rfl) (fun _ _ _ h => h) (.inl ⟨by kernel_rfl, fun x_ hu => by kernel_rfl⟩) trivial ?_
    simp only [Act.put, List.setIfInBounds_toArray, List.set_cons_zero, List.set_cons_succ, List.getElem_toArray, List.getElem_cons_zero, List.getElem_cons_succ]
    refine any_take (i := 5) (v := (.int .u8 y)) #[true, true, true, false, true, false, false, false, false, false, false] rfl (by kernel_rfl) (by kernel_rfl) (by kernel_rfl) (by kernel_rfl) (fun _ _ _ h => h) (.inl ⟨by kernel_rfl, fun x_ hu => by go_simp⟩) trivial ?_
    simp only [Act.put, List.setIfInBounds_toArray, List.set_cons_zero, List.set_cons_succ, List.getElem_toArray, List.getElem_cons_zero, List.getElem_cons_succ]
    refine float2 (fun q u => Yl u q y) (fun q u => Kl W0.heap.size u q) 23 10 (fun b_ d_ => #[true, true, true, false, true, true, b_, false, false, d_, false]) 6 9 3 false (b1 := false) (b2 := false) (q1 := u23) (q2 := u10) rfl rfl (fun e => by cases e) (fun e => by cases e) (fun _ _ _ h k => h.gr k) (fun _ _ _ h k => h.gr k) (fun _ _ => trivial) (by kernel_rfl) (fun b_ d_ => by cases b_ <;> cases d_ <;> rfl) (fun b_ d_ => by cases b_ <;> cases d_ <;> rfl) ?_ ?_ ?_
    all_goals simp only [fw1, Act.put, List.setIfInBounds_toArray, List.set_cons_zero, List.set_cons_succ, List.getElem_toArray, List.getElem_cons_zero, List.getElem_cons_succ]
    · intro q_ p_ x_ hgx K hK
      refine wpOp_step (o := _) rfl (fun K' hK' => ?_)
      refine step_val (.slice (some ⟨x_.heap.size, 0, none⟩) 1 1) (x_.alloc (.cells (kc [y]) 5 (0, 0))) (by kernel_rfl) (by kernel_rfl) ?_
      exact hK' _ _ (hK _ _ ((Gr.refl _).alloc _) ⟨_, rfl, blk_new _ _⟩)
    · intro q_ p_ x_ hgx K hK
      refine wpOp_step (o := _) rfl (fun K' hK' => ?_)
      refine step_val (.pointer (some ⟨x_.heap.size, 0, none⟩)) (x_.alloc (.cells (kc Z32) 25 (0, 0))) (by kernel_rfl) (by kernel_rfl) ?_
      exact hK' _ _ (hK _ _ ((Gr.refl _).alloc _) ⟨_, rfl, blk_new _ _, hgx.size⟩)
    intro b1 b2 q1 q2 x1 hg h1 h2 _
    have hG0 := hg
    replace hS := hS.more hg
    clear hg
    refine wpOp_step (o := _) rfl (fun Kc hK => ?_)
    refine step_callw (by kernel_rfl) 93 #[.slice a8 n8 c8, .slice a ni ci] (by kernel_rfl) ((both_ok (lastT K I i) I a8 a n8 c8 ni ci (by omega) _ hS.lb ((unhide hI).gr hS.gr)).mono ?_)
    rintro r x2 ⟨v2, rfl, hO, hg⟩
    refine ⟨_, rfl, ?_⟩
    obtain ⟨a2, c2, rfl, l2⟩ := hO.lb (isB_append (lastT_isB _ _ _) (unhide hI).isB)
    have hl2 : (lastT K I i ++ I).length = n8 + ni := by rw [List.length_append, hS.lb.len, (unhide hI).len]
    rw [hl2] at l2
    rw [hl2]
    replace h1 : b1 = true → Yl x2 q1 y := fun e => (h1 e).gr hg
    replace h2 : b2 = true → Kl W0.heap.size x2 q2 := fun e => (h2 e).gr hg
    replace hS := hS.more hg
    replace hG0 := hG0.trans hg
    clear hg hO hl2
    refine hK _ _ ⟨trivial, ?_⟩
    clear hK Kc
    simp only [Act.put, List.setIfInBounds_toArray, List.set_cons_zero, List.set_cons_succ, List.getElem_toArray, List.getElem_cons_zero, List.getElem_cons_succ]
    refine float2 (fun q u => Yl u q y) (fun q u => Kl W0.heap.size u q) 23 10 (fun b_ d_ => #[true, true, true, true, true, true, b_, false, false, d_, false]) 6 9 7 true (b1 := b1) (b2 := b2) (q1 := q1) (q2 := q2) rfl rfl h1 h2 (fun _ _ _ h k => h.gr k) (fun _ _ _ h k => h.gr k) (fun _ _ => trivial) (by kernel_rfl) (fun b_ d_ => by cases b_ <;> cases d_ <;> rfl) (fun b_ d_ => by cases b_ <;> cases d_ <;> rfl) ?_ ?_ ?_
    all_goals simp only [fw1, Act.put, List.setIfInBounds_toArray, List.set_cons_zero, List.set_cons_succ, List.getElem_toArray, List.getElem_cons_zero, List.getElem_cons_succ]
    · intro q_ p_ x_ hgx K hK
      refine wpOp_step (o := _) rfl (fun K' hK' => ?_)
      refine step_val (.slice (some ⟨x_.heap.size, 0, none⟩) 1 1) (x_.alloc (.cells (kc [y]) 5 (0, 0))) (by kernel_rfl) (by kernel_rfl) ?_
      exact hK' _ _ (hK _ _ ((Gr.refl _).alloc _) ⟨_, rfl, blk_new _ _⟩)
    · intro q_ p_ x_ hgx K hK
      refine wpOp_step (o := _) rfl (fun K' hK' => ?_)
      refine step_val (.pointer (some ⟨x_.heap.size, 0, none⟩)) (x_.alloc (.cells (kc Z32) 25 (0, 0))) (by kernel_rfl) (by kernel_rfl) ?_
      exact hK' _ _ (hK _ _ ((Gr.refl _).alloc _) ⟨_, rfl, blk_new _ _, Nat.le_trans hG0.size hgx.size⟩)
    clear h1 h2
    intro b1 b2 q1 q2 x3 hg h1 h2 hall
    obtain rfl : b1 = true := hall (by trivial)
    obtain ⟨g1, rfl, hc1⟩ := h1 rfl
    clear hall h1
    replace hG0 := hG0.trans hg
    replace hS := hS.more hg
    replace l2 := l2.gr hg
    clear hg
    refine wpOp_step (o := _) rfl (fun Kc hK => ?_)
    refine step_callw (by kernel_rfl) 93 #[.slice a2 (n8 + ni) c2, .slice (some ⟨g1, 0, none⟩) 1 1] (by kernel_rfl) ((both_ok (lastT K I i ++ I) [y] a2 (some ⟨g1, 0, none⟩) (n8 + ni) c2 1 1 (by omega) _ l2 ⟨rfl, (by intro x hx; simp at hx; subst hx; exact hyb), .inr ⟨_, 0, rfl, kc_at hc1⟩, by omega, by omega⟩).mono ?_)
    rintro r x4 ⟨v4, rfl, hO, hg⟩
    refine ⟨_, rfl, ?_⟩
    obtain ⟨a4, c4, rfl, l4⟩ := hO.lb (isB_append l2.isB (by intro x hx; simp at hx; subst hx; exact hyb))
    have hl4 : (lastT K I i ++ I ++ [y]).length = n8 + ni + 1 := by rw [List.length_append, l2.len]; rfl
    rw [hl4] at l4
    rw [hl4]
    replace h2 : b2 = true → Kl W0.heap.size x4 q2 := fun e => (h2 e).gr hg
    replace hS := hS.more hg
    replace hG0 := hG0.trans hg
    clear hg hO hl4 l2 hc1
    refine hK _ _ ⟨trivial, ?_⟩
    clear hK Kc
    simp only [Act.put, List.setIfInBounds_toArray, List.set_cons_zero, List.set_cons_succ, List.getElem_toArray, List.getElem_cons_zero, List.getElem_cons_succ]
    refine float_again (fun q u => Kl W0.heap.size u q) 10 (fun b_ => #[true, true, true, true, true, true, true, true, false, b_, false]) 9 8 false (b := b2) (q := q2) rfl rfl h2 (fun _ _ => trivial) (by kernel_rfl) (fun b_ => by cases b_ <;> rfl) ?_ ?_
    all_goals simp only [fw1, Act.put, List.setIfInBounds_toArray, List.set_cons_zero, List.set_cons_succ, List.getElem_toArray, List.getElem_cons_zero, List.getElem_cons_succ]
    · intro q_ x_ hgx K hK
      refine wpOp_step (o := _) rfl (fun K' hK' => ?_)
      refine step_val (.pointer (some ⟨x_.heap.size, 0, none⟩)) (x_.alloc (.cells (kc Z32) 25 (0, 0))) (by kernel_rfl) (by kernel_rfl) ?_
      exact hK' _ _ (hK _ _ ((Gr.refl _).alloc _) ⟨_, rfl, blk_new _ _, Nat.le_trans hG0.size hgx.size⟩)
    clear h2
    intro b2 q2 x5 hg h2 _
    replace hG0 := hG0.trans hg
    replace hS := hS.more hg
    replace l4 := l4.gr hg
    clear hg
    refine wpOp_step (o := _) rfl (fun Kc hK => ?_)
    refine step_callw (by kernel_rfl) 92 #[.slice (some ⟨w.heap.size, 0, none⟩) 32 32, .slice a4 (n8 + ni + 1) c4] (by kernel_rfl) ((rhmac_ok K (lastT K I i ++ I ++ [y]) (some ⟨w.heap.size, 0, none⟩) a4 32 32 (n8 + ni + 1) c4 (by omega) (by omega) _ ⟨hKl, unhide hKb, .inr ⟨_, 0, rfl, kc_at hS.bk⟩, by omega, by omega⟩ l4).mono ?_)
    rintro r x6 ⟨rfl, hg⟩
    refine ⟨_, rfl, ?_⟩
    rw [unhide hnx]
    obtain ⟨M, hM⟩ : ∃ M, M = lastT K I (i + 1) := ⟨_, rfl⟩
    have hMl : M.length = 32 := by rw [hM]; exact lastT_len _ _ _
    have hMb : IsB M := by rw [hM]; exact lastT_isB _ _ _
    rw [← hM]
    replace hM := hide hM
    replace hMb := hide hMb
    replace h2 : b2 = true → Kl W0.heap.size x6 q2 := fun e => (h2 e).gr hg
    replace hS := hS.more hg
    replace hG0 := hG0.trans hg
    clear hg l4
    refine hK _ _ ⟨trivial, ?_⟩
    clear hK Kc
    simp only [Act.put, List.setIfInBounds_toArray, List.set_cons_zero, List.set_cons_succ, List.getElem_toArray, List.getElem_cons_zero, List.getElem_cons_succ]
    refine float_again (fun q u => Kl W0.heap.size u q) 10 (fun b_ => #[true, true, true, true, true, true, true, true, true, b_, false]) 9 10 true (b := b2) (q := q2) rfl rfl h2 (fun _ _ => trivial) (by kernel_rfl) (fun b_ => by cases b_ <;> rfl) ?_ ?_
    all_goals simp only [fw1, Act.put, List.setIfInBounds_toArray, List.set_cons_zero, List.set_cons_succ, List.getElem_toArray, List.getElem_cons_zero, List.getElem_cons_succ]
    · intro q_ x_ hgx K hK
      refine wpOp_step (o := _) rfl (fun K' hK' => ?_)
      refine step_val (.pointer (some ⟨x_.heap.size, 0, none⟩)) (x_.alloc (.cells (kc Z32) 25 (0, 0))) (by kernel_rfl) (by kernel_rfl) ?_
      exact hK' _ _ (hK _ _ ((Gr.refl _).alloc _) ⟨_, rfl, blk_new _ _, Nat.le_trans hG0.size hgx.size⟩)
    clear h2
    intro b2 q2 x7 hg h2 hall
    obtain rfl : b2 = true := hall (by trivial)
    obtain ⟨gt, rfl, hct, hgt⟩ := h2 rfl
    clear hall h2
    replace hG0 := hG0.trans hg
    replace hS := hS.more hg
    clear hg
    have hL : Bl W0 [⟨gt, kc Z32, 25⟩] x7 := (Bl.nil W0).join hG0 [⟨gt, kc Z32, 25⟩] (fun x hx => by simp at hx; subst hx; exact ⟨hct, hgt⟩) (List.pairwise_singleton _ _)
    refine wpOp_step (o := _) rfl (fun Kc hK => ?_)
    rw [if_pos (by kernel_rfl)]
    refine wp_store_row 25 (.tmp 10) (.tmp 25) rfl gt (kc M) (by kernel_rfl) (by kernel_rfl) 25 (kc Z32) hct (by rw [Tryd.infoKey, kc_size, hMl]) ((show (kc Z32).size = 32 from rfl).trans ((kc_size _).trans hMl).symm) (kc_one _) ?_
    replace hL := hL.set 0 (x := ⟨gt, kc Z32, 25⟩) rfl (kc M)
    simp only [List.set_cons_zero, List.set_cons_succ] at hL
    refine hK _ _ ⟨trivial, ?_⟩
    clear hK Kc
    generalize World.setRow _ _ _ = x8 at *
    simp only [Act.put, List.setIfInBounds_toArray, List.set_cons_zero, List.set_cons_succ, List.getElem_toArray, List.getElem_cons_zero, List.getElem_cons_succ]
    refine any_done (by kernel_rfl) ?_
    have hct2 := hL.get 0 (x := ⟨gt, kc M, 25⟩) rfl
    replace hS := hide ((unhide hS0).more hL.gr)
    have lm : Hid (Lb x8 (some ⟨gt, 0, none⟩) 32 32 M) := ⟨hMl, unhide hMb, .inr ⟨_, 0, rfl, kc_at hct2⟩, by omega, by omega⟩
    clear hct2 hct hL hG0 hS0 hgt
    go_upto_region 6 with fail
    refine wp_region_lit ?_
    iterate 1 (refine wpList_step fun K hK => ?_; replace hK := hide hK; go_simp; refine unhide hK _ _ ?_; clear hK K)
    refine list_call 93 #[.slice (some ⟨gt, 0, none⟩) 32 32, .slice none 0 0] (by kernel_rfl) (by kernel_rfl) ((both_ok M [] (some ⟨gt, 0, none⟩) none 32 32 0 0 (by omega) _ (unhide lm) (Lb.nil _)).mono ?_)
    rintro r x9 ⟨v9, rfl, hO, hg⟩
    refine ⟨_, rfl, ?_⟩
    rw [List.append_nil] at hO
    obtain ⟨a9, c9, rfl, l9⟩ := hO.lb (unhide hMb)
    rw [hMl] at l9
    rw [hMl]
    replace hS := hide ((unhide hS).more hg)
    replace l9 := hide l9
    clear lm hO hg
    simp only [Act.put, List.setIfInBounds_toArray, List.set_cons_zero, List.set_cons_succ, List.getElem_toArray, List.getElem_cons_zero, List.getElem_cons_succ]
    iterate 1 (refine wpList_step fun K hK => ?_; replace hK := hide hK; go_simp; refine unhide hK _ _ ?_; clear hK K)
    refine wpList_nil ?_
    go_upto_region 7 with fail
    refine wp_region_lit ?_
    iterate 2 (refine wpList_step fun K hK => ?_; replace hK := hide hK; go_simp; refine unhide hK _ _ ?_; clear hK K)
    refine list_call 93 #[.slice a7 (32 * i) c7, .slice a9 32 c9] (by kernel_rfl) (by kernel_rfl) ((both_ok (outT K I i) M a7 a9 (32 * i) c7 32 c9 (by omega) _ (unhide hS).la (unhide l9)).mono ?_)
    rintro r y1 ⟨v10, rfl, hO, hg⟩
    refine ⟨_, rfl, ?_⟩
    obtain ⟨a10, c10, rfl, l10⟩ := hO.lb (isB_append (outT_isB _ _ _) (unhide hMb))
    have hl10 : (outT K I i ++ M).length = 32 * (i + 1) := by rw [List.length_append, outT_len, hMl]; omega
    rw [hl10] at l10
    rw [hl10]
    replace hS := (unhide hS).more hg
    have hE : Hid (EI w K I (i + 1) a10 c10 a9 32 c9 y1) := ⟨by rw [outT, ← unhide hM]; exact l10, by rw [← unhide hM]; exact (unhide l9).gr hg, hS.bk, hS.gr⟩
    clear hS hO hg l9 l10 hl10
    simp only [Act.put, List.setIfInBounds_toArray, List.set_cons_zero, List.set_cons_succ, List.getElem_toArray, List.getElem_cons_zero, List.getElem_cons_succ]
    iterate 1 (refine wpList_step fun K hK => ?_; replace hK := hide hK; go_simp; refine unhide hK _ _ ?_; clear hK K)
    refine wpList_nil ?_
    go_wp2_with fail
    go_roundw
    case rel => exact ⟨i + 1, a10, c10, a9, 32, c9, by omega, rfl, rfl, by go_num, hE⟩
    case measure => simp [slenV]; omega
  · have lI : ¬ 32 * (i : Int) < (n : Int) := by omega
    have hlt : n ≤ 32 * i := by omega
    have hsp : Hid ((outT K I i).take n = spL K I n) := spL_of K I n i hlt
    have hnc : n ≤ c7 := by have := (unhide hS).la.cap; omega
    go_upto_region 8 with fail
    refine wp_region_lit ?_
    iterate 3 (refine wpList_step fun K hK => ?_; replace hK := hide hK; go_simp; refine unhide hK _ _ ?_; clear hK K)
    have lc := Sl.cutl (unhide hS).la n hlt
    rw [unhide hsp] at lc
    refine list_call 93 #[.slice a7 n c7, .slice none 0 0] (by kernel_rfl) (by kernel_rfl) ((both_ok (spL K I n) [] a7 none n c7 0 0 (by omega) _ lc (Lb.nil _)).mono ?_)
    rintro r y1 ⟨v1, rfl, hO, hg⟩
    refine ⟨_, rfl, ?_⟩
    rw [List.append_nil] at hO
    obtain ⟨a1, c1, rfl, l1⟩ := hO.lb (spL_isB _ _ _)
    rw [spL_len] at l1
    rw [spL_len]
    have hP : Hid (Rexp K I n w (.returned (.slice a1 n c1)) y1) := ⟨a1, c1, rfl, l1, (unhide hS).gr.trans hg⟩
    clear hS hg hO l1 lc
    simp only [Act.put, List.setIfInBounds_toArray, List.set_cons_zero, List.set_cons_succ, List.getElem_toArray, List.getElem_cons_zero, List.getElem_cons_succ]
    iterate 1 (refine wpList_step fun K hK => ?_; replace hK := hide hK; go_simp; refine unhide hK _ _ ?_; clear hK K)
    refine wpList_nil ?_
    go_wp2_with fail
    rw [unhide hT]
    exact unhide hP
end Go.Proofs.YtpmgmpihmpifgaaDoor
