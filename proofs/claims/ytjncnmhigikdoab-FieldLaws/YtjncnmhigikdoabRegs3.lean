/-
  A region that draws its order and in which 3 variables are made beside calls.
-/
import Derived.Test.YtjncnmhigikdoabRegs
namespace Go.Proofs.Ytjncnmhigikdoab
open Go.RowKit
set_option maxRecDepth 100000

structure D3 (w0 : World) (A : Value → Value → Value → Value → Value → Value → Act) (F : Bool → Bool → Bool → Bool → Bool → Bool → Bool → Bool → Bool → Array Bool) (R1 R2 R3 : Array Value → Prop) (n1 n2 n3 : Nat) (t1 t2 t3 : TypeId)
    (b1 b2 b3 b4 b5 b6 b7 b8 b9 : Bool) (v1 v2 v3 q1 q2 q3 : Value) (g1 g2 g3 : Nat) (c1 c2 c3 : Array Value) (l : Array Bool) (a : Act) (w : World) : Prop where
  hl : l = F b1 b2 b3 b4 b5 b6 b7 b8 b9
  ha : a = A v1 v2 v3 q1 q2 q3
  gr : Gr w0 w
  r1 : b1 = true → v1 = .agg c1 ∧ R1 c1
  r2 : b2 = true → v2 = .agg c2 ∧ R2 c2
  r3 : b3 = true → v3 = .agg c3 ∧ R3 c3
  x1 : b4 = true → Var w0 n1 t1 w q1 g1
  x2 : b5 = true → Var w0 n2 t2 w q2 g2
  x3 : b6 = true → Var w0 n3 t3 w q3 g3
  ne12 : b4 = true → b5 = true → g1 ≠ g2
  ne13 : b4 = true → b6 = true → g1 ≠ g3
  ne23 : b5 = true → b6 = true → g2 ≠ g3
  s1 : b7 = true → b1 = true ∧ b4 = true ∧ w.heap[g1]? = some (.cells c1 t1 (0, 0))
  s2 : b8 = true → b2 = true ∧ b5 = true ∧ w.heap[g2]? = some (.cells c2 t2 (0, 0))
  s3 : b9 = true → b3 = true ∧ b6 = true ∧ w.heap[g3]? = some (.cells c3 t3 (0, 0))

def chk3 (md : Region.Mode) (ops : Array Oper) (F : Bool → Bool → Bool → Bool → Bool → Bool → Bool → Bool → Bool → Array Bool) (i1 i2 i3 i4 i5 i6 i7 i8 i9 : Nat) : Bool :=
  [false, true].all fun b1 => [false, true].all fun b2 => [false, true].all fun b3 => [false, true].all fun b4 => [false, true].all fun b5 => [false, true].all fun b6 => [false, true].all fun b7 => [false, true].all fun b8 => [false, true].all fun b9 =>
    ((Region.ready md ops (F b1 b2 b3 b4 b5 b6 b7 b8 b9)).all fun i => (i == i1 && !b1) || (i == i2 && !b2) || (i == i3 && !b3) || (i == i4 && !b4) || (i == i5 && !b5) || (i == i6 && !b6) || (i == i7 && b1 && b4 && b5 && b6 && !b7) || (i == i8 && b2 && b4 && b5 && b6 && !b8) || (i == i9 && b3 && b4 && b5 && b6 && !b9)) && (!(Region.ready md ops (F b1 b2 b3 b4 b5 b6 b7 b8 b9)).isEmpty || (b7 && b8 && b9))
theorem chk3_spec {md : Region.Mode} {ops : Array Oper} {F : Bool → Bool → Bool → Bool → Bool → Bool → Bool → Bool → Bool → Array Bool} {i1 i2 i3 i4 i5 i6 i7 i8 i9 : Nat} (h : chk3 md ops F i1 i2 i3 i4 i5 i6 i7 i8 i9 = true) :
    (∀ b1 b2 b3 b4 b5 b6 b7 b8 b9, ∀ i ∈ Region.ready md ops (F b1 b2 b3 b4 b5 b6 b7 b8 b9), (i = i1 ∧ b1 = false) ∨ (i = i2 ∧ b2 = false) ∨ (i = i3 ∧ b3 = false) ∨ (i = i4 ∧ b4 = false) ∨ (i = i5 ∧ b5 = false) ∨ (i = i6 ∧ b6 = false) ∨ (i = i7 ∧ b1 = true ∧ b4 = true ∧ b5 = true ∧ b6 = true ∧ b7 = false) ∨ (i = i8 ∧ b2 = true ∧ b4 = true ∧ b5 = true ∧ b6 = true ∧ b8 = false) ∨ (i = i9 ∧ b3 = true ∧ b4 = true ∧ b5 = true ∧ b6 = true ∧ b9 = false)) ∧
    (∀ b1 b2 b3 b4 b5 b6 b7 b8 b9, Region.ready md ops (F b1 b2 b3 b4 b5 b6 b7 b8 b9) = [] → b7 = true ∧ b8 = true ∧ b9 = true) := by
  have mb : ∀ b : Bool, b ∈ [false, true] := by intro b; cases b <;> simp
  have h1 : ∀ b1 b2 b3 b4 b5 b6 b7 b8 b9, _ := fun b1 b2 b3 b4 b5 b6 b7 b8 b9 => (List.all_eq_true.1 (List.all_eq_true.1 (List.all_eq_true.1 (List.all_eq_true.1 (List.all_eq_true.1 (List.all_eq_true.1 (List.all_eq_true.1 (List.all_eq_true.1 (List.all_eq_true.1 h b1 (mb b1)) b2 (mb b2)) b3 (mb b3)) b4 (mb b4)) b5 (mb b5)) b6 (mb b6)) b7 (mb b7)) b8 (mb b8)) b9 (mb b9))
  constructor
  · intro b1 b2 b3 b4 b5 b6 b7 b8 b9 i hi
    have h2 := List.all_eq_true.1 (Bool.and_eq_true_iff.1 (h1 b1 b2 b3 b4 b5 b6 b7 b8 b9)).1 i hi
    simp only [Bool.or_eq_true, Bool.and_eq_true, beq_iff_eq, Bool.not_eq_true', and_assoc, or_assoc] at h2
    exact h2
  · intro b1 b2 b3 b4 b5 b6 b7 b8 b9 hi
    have h2 := (Bool.and_eq_true_iff.1 (h1 b1 b2 b3 b4 b5 b6 b7 b8 b9)).2
    rw [hi] at h2
    simpa [and_assoc] using h2

set_option maxHeartbeats 2000000 in
theorem define3 {P : Program} {md : Region.Mode} {ops : Array Oper} {Q : Exit → Act → World → Prop} (w0 : World) (A : Value → Value → Value → Value → Value → Value → Act) (F : Bool → Bool → Bool → Bool → Bool → Bool → Bool → Bool → Bool → Array Bool)
    (R1 R2 R3 : Array Value → Prop) (n1 n2 n3 : Nat) (t1 t2 t3 : TypeId) (z1 z2 z3 : Array Value) (i1 i2 i3 i4 i5 i6 i7 i8 i9 : Nat)
    (hz1 : z1.size = n1) (hz2 : z2.size = n2) (hz3 : z3.size = n3)
    (hR1 : ∀ c, R1 c → c.size = n1) (hR2 : ∀ c, R2 c → c.size = n2) (hR3 : ∀ c, R3 c → c.size = n3)
    (hchk : chk3 md ops F i1 i2 i3 i4 i5 i6 i7 i8 i9 = true)
    (hF : ∀ b1 b2 b3 b4 b5 b6 b7 b8 b9, (F b1 b2 b3 b4 b5 b6 b7 b8 b9).setIfInBounds i1 true = F true b2 b3 b4 b5 b6 b7 b8 b9 ∧ (F b1 b2 b3 b4 b5 b6 b7 b8 b9).setIfInBounds i2 true = F b1 true b3 b4 b5 b6 b7 b8 b9 ∧ (F b1 b2 b3 b4 b5 b6 b7 b8 b9).setIfInBounds i3 true = F b1 b2 true b4 b5 b6 b7 b8 b9 ∧ (F b1 b2 b3 b4 b5 b6 b7 b8 b9).setIfInBounds i4 true = F b1 b2 b3 true b5 b6 b7 b8 b9 ∧ (F b1 b2 b3 b4 b5 b6 b7 b8 b9).setIfInBounds i5 true = F b1 b2 b3 b4 true b6 b7 b8 b9 ∧ (F b1 b2 b3 b4 b5 b6 b7 b8 b9).setIfInBounds i6 true = F b1 b2 b3 b4 b5 true b7 b8 b9 ∧ (F b1 b2 b3 b4 b5 b6 b7 b8 b9).setIfInBounds i7 true = F b1 b2 b3 b4 b5 b6 true b8 b9 ∧ (F b1 b2 b3 b4 b5 b6 b7 b8 b9).setIfInBounds i8 true = F b1 b2 b3 b4 b5 b6 b7 true b9 ∧ (F b1 b2 b3 b4 b5 b6 b7 b8 b9).setIfInBounds i9 true = F b1 b2 b3 b4 b5 b6 b7 b8 true)
    (call1 : ∀ v1 v2 v3 q1 q2 q3 w (K : Act → World → Prop), Gr w0 w → (∀ c w', R1 c → Gr w w' → K (A (.agg c) v2 v3 q1 q2 q3) w') → wpOp P ops Q i1 K (A v1 v2 v3 q1 q2 q3) w)
    (call2 : ∀ v1 v2 v3 q1 q2 q3 w (K : Act → World → Prop), Gr w0 w → (∀ c w', R2 c → Gr w w' → K (A v1 (.agg c) v3 q1 q2 q3) w') → wpOp P ops Q i2 K (A v1 v2 v3 q1 q2 q3) w)
    (call3 : ∀ v1 v2 v3 q1 q2 q3 w (K : Act → World → Prop), Gr w0 w → (∀ c w', R3 c → Gr w w' → K (A v1 v2 (.agg c) q1 q2 q3) w') → wpOp P ops Q i3 K (A v1 v2 v3 q1 q2 q3) w)
    (new1 : ∀ v1 v2 v3 q1 q2 q3 w (K : Act → World → Prop), K (A v1 v2 v3 (.pointer (some ⟨w.heap.size, 0, none⟩)) q2 q3) (w.alloc (.cells z1 t1 (0, 0))) → wpOp P ops Q i4 K (A v1 v2 v3 q1 q2 q3) w)
    (new2 : ∀ v1 v2 v3 q1 q2 q3 w (K : Act → World → Prop), K (A v1 v2 v3 q1 (.pointer (some ⟨w.heap.size, 0, none⟩)) q3) (w.alloc (.cells z2 t2 (0, 0))) → wpOp P ops Q i5 K (A v1 v2 v3 q1 q2 q3) w)
    (new3 : ∀ v1 v2 v3 q1 q2 q3 w (K : Act → World → Prop), K (A v1 v2 v3 q1 q2 (.pointer (some ⟨w.heap.size, 0, none⟩))) (w.alloc (.cells z3 t3 (0, 0))) → wpOp P ops Q i6 K (A v1 v2 v3 q1 q2 q3) w)
    (put1 : ∀ c v2 v3 g q2 q3 w o (K : Act → World → Prop), w.heap[g]? = some (.cells o t1 (0, 0)) → o.size = n1 → R1 c → K (A (.agg c) v2 v3 (.pointer (some ⟨g, 0, none⟩)) q2 q3) (w.setRow g c) → wpOp P ops Q i7 K (A (.agg c) v2 v3 (.pointer (some ⟨g, 0, none⟩)) q2 q3) w)
    (put2 : ∀ v1 c v3 q1 g q3 w o (K : Act → World → Prop), w.heap[g]? = some (.cells o t2 (0, 0)) → o.size = n2 → R2 c → K (A v1 (.agg c) v3 q1 (.pointer (some ⟨g, 0, none⟩)) q3) (w.setRow g c) → wpOp P ops Q i8 K (A v1 (.agg c) v3 q1 (.pointer (some ⟨g, 0, none⟩)) q3) w)
    (put3 : ∀ v1 v2 c q1 q2 g w o (K : Act → World → Prop), w.heap[g]? = some (.cells o t3 (0, 0)) → o.size = n3 → R3 c → K (A v1 v2 (.agg c) q1 q2 (.pointer (some ⟨g, 0, none⟩))) (w.setRow g c) → wpOp P ops Q i9 K (A v1 v2 (.agg c) q1 q2 (.pointer (some ⟨g, 0, none⟩))) w)
    (post : ∀ c1 c2 c3 g1 g2 g3 w, Gr w0 w → R1 c1 → R2 c2 → R3 c3 → w0.heap.size ≤ g1 → w0.heap.size ≤ g2 → w0.heap.size ≤ g3 → g1 ≠ g2 → g1 ≠ g3 → g2 ≠ g3 → w.heap[g1]? = some (.cells c1 t1 (0, 0)) → w.heap[g2]? = some (.cells c2 t2 (0, 0)) → w.heap[g3]? = some (.cells c3 t3 (0, 0)) → Q .normal (A (.agg c1) (.agg c2) (.agg c3) (.pointer (some ⟨g1, 0, none⟩)) (.pointer (some ⟨g2, 0, none⟩)) (.pointer (some ⟨g3, 0, none⟩))) w)
    (fuel : Nat) (l : Array Bool) (a : Act) (w : World) (hfu : (l.toList.filter (!·)).length ≤ fuel)
    (h : ∃ b1 b2 b3 b4 b5 b6 b7 b8 b9 v1 v2 v3 q1 q2 q3 g1 g2 g3 c1 c2 c3, D3 w0 A F R1 R2 R3 n1 n2 n3 t1 t2 t3 b1 b2 b3 b4 b5 b6 b7 b8 b9 v1 v2 v3 q1 q2 q3 g1 g2 g3 c1 c2 c3 l a w) : wpAnyH P md ops Q (fun v => Gr w0 v) fuel l a w := by
  obtain ⟨hr, hd⟩ := chk3_spec hchk
  refine wpAnyH_inv (fun l a w => ∃ b1 b2 b3 b4 b5 b6 b7 b8 b9 v1 v2 v3 q1 q2 q3 g1 g2 g3 c1 c2 c3, D3 w0 A F R1 R2 R3 n1 n2 n3 t1 t2 t3 b1 b2 b3 b4 b5 b6 b7 b8 b9 v1 v2 v3 q1 q2 q3 g1 g2 g3 c1 c2 c3 l a w) ?_ ?_ fuel l a w hfu h
  · rintro l a w ⟨b1, b2, b3, b4, b5, b6, b7, b8, b9, v1, v2, v3, q1, q2, q3, g1, g2, g3, c1, c2, c3, hl, ha, gr, r1, r2, r3, x1, x2, x3, ne12, ne13, ne23, s1, s2, s3⟩ hrd
    subst hl ha
    obtain ⟨rfl, rfl, rfl⟩ := hd _ _ _ _ _ _ _ _ _ hrd
    obtain ⟨rfl, rfl, k1⟩ := s1 rfl
    obtain ⟨rfl, rfl, k2⟩ := s2 rfl
    obtain ⟨rfl, rfl, k3⟩ := s3 rfl
    obtain ⟨rfl, m1⟩ := r1 rfl
    obtain ⟨rfl, m2⟩ := r2 rfl
    obtain ⟨rfl, m3⟩ := r3 rfl
    obtain ⟨rfl, p1, _⟩ := x1 rfl
    obtain ⟨rfl, p2, _⟩ := x2 rfl
    obtain ⟨rfl, p3, _⟩ := x3 rfl
    exact post c1 c2 c3 g1 g2 g3 w gr m1 m2 m3 p1 p2 p3 (ne12 rfl rfl) (ne13 rfl rfl) (ne23 rfl rfl) k1 k2 k3
  · rintro l a w ⟨b1, b2, b3, b4, b5, b6, b7, b8, b9, v1, v2, v3, q1, q2, q3, g1, g2, g3, c1, c2, c3, hl, ha, gr, r1, r2, r3, x1, x2, x3, ne12, ne13, ne23, s1, s2, s3⟩ i hi
    subst hl ha
    obtain ⟨f1, f2, f3, f4, f5, f6, f7, f8, f9⟩ := hF b1 b2 b3 b4 b5 b6 b7 b8 b9
    rcases hr b1 b2 b3 b4 b5 b6 b7 b8 b9 i hi with ⟨rfl, e⟩ | ⟨rfl, e⟩ | ⟨rfl, e⟩ | ⟨rfl, e⟩ | ⟨rfl, e⟩ | ⟨rfl, e⟩ | ⟨rfl, e0, e1, e2, e3, e⟩ | ⟨rfl, e0, e1, e2, e3, e⟩ | ⟨rfl, e0, e1, e2, e3, e⟩
    · refine call1 v1 v2 v3 q1 q2 q3 w _ gr (fun c w' hc hg => ⟨gr.trans hg, true, b2, b3, b4, b5, b6, b7, b8, b9, _, v2, v3, q1, q2, q3, g1, g2, g3, c, c2, c3, f1, rfl, gr.trans hg, fun _ => ⟨rfl, hc⟩, r2, r3, fun k => (x1 k).gr hg, fun k => (x2 k).gr hg, fun k => (x3 k).gr hg, ne12, ne13, ne23, ?_, fun k => ⟨(s2 k).1, (s2 k).2.1, hg.blk (s2 k).2.2⟩, fun k => ⟨(s3 k).1, (s3 k).2.1, hg.blk (s3 k).2.2⟩⟩)
      intro k
      have := (s1 k).1
      rw [e] at this
      cases this
    · refine call2 v1 v2 v3 q1 q2 q3 w _ gr (fun c w' hc hg => ⟨gr.trans hg, b1, true, b3, b4, b5, b6, b7, b8, b9, v1, _, v3, q1, q2, q3, g1, g2, g3, c1, c, c3, f2, rfl, gr.trans hg, r1, fun _ => ⟨rfl, hc⟩, r3, fun k => (x1 k).gr hg, fun k => (x2 k).gr hg, fun k => (x3 k).gr hg, ne12, ne13, ne23, fun k => ⟨(s1 k).1, (s1 k).2.1, hg.blk (s1 k).2.2⟩, ?_, fun k => ⟨(s3 k).1, (s3 k).2.1, hg.blk (s3 k).2.2⟩⟩)
      intro k
      have := (s2 k).1
      rw [e] at this
      cases this
    · refine call3 v1 v2 v3 q1 q2 q3 w _ gr (fun c w' hc hg => ⟨gr.trans hg, b1, b2, true, b4, b5, b6, b7, b8, b9, v1, v2, _, q1, q2, q3, g1, g2, g3, c1, c2, c, f3, rfl, gr.trans hg, r1, r2, fun _ => ⟨rfl, hc⟩, fun k => (x1 k).gr hg, fun k => (x2 k).gr hg, fun k => (x3 k).gr hg, ne12, ne13, ne23, fun k => ⟨(s1 k).1, (s1 k).2.1, hg.blk (s1 k).2.2⟩, fun k => ⟨(s2 k).1, (s2 k).2.1, hg.blk (s2 k).2.2⟩, ?_⟩)
      intro k
      have := (s3 k).1
      rw [e] at this
      cases this
    · have hg := (Gr.refl w).alloc (.cells z1 t1 (0, 0))
      refine new1 v1 v2 v3 q1 q2 q3 w _ ⟨gr.trans hg, b1, b2, b3, true, b5, b6, b7, b8, b9, v1, v2, v3, _, q2, q3, w.heap.size, g2, g3, c1, c2, c3, f4, rfl, gr.trans hg, r1, r2, r3, fun _ => ⟨rfl, gr.size, z1, hz1, blk_new _ _⟩, fun k => (x2 k).gr hg, fun k => (x3 k).gr hg, ?_, ?_, ne23, ?_, fun k => ⟨(s2 k).1, (s2 k).2.1, hg.blk (s2 k).2.2⟩, fun k => ⟨(s3 k).1, (s3 k).2.1, hg.blk (s3 k).2.2⟩⟩
      · intro ka kb
        obtain ⟨_, _, o, _, h4⟩ := x2 kb
        have := lt_of_block h4
        omega
      · intro ka kb
        obtain ⟨_, _, o, _, h4⟩ := x3 kb
        have := lt_of_block h4
        omega
      · intro k
        have := (s1 k).2.1
        rw [e] at this
        cases this
    · have hg := (Gr.refl w).alloc (.cells z2 t2 (0, 0))
      refine new2 v1 v2 v3 q1 q2 q3 w _ ⟨gr.trans hg, b1, b2, b3, b4, true, b6, b7, b8, b9, v1, v2, v3, q1, _, q3, g1, w.heap.size, g3, c1, c2, c3, f5, rfl, gr.trans hg, r1, r2, r3, fun k => (x1 k).gr hg, fun _ => ⟨rfl, gr.size, z2, hz2, blk_new _ _⟩, fun k => (x3 k).gr hg, ?_, ne13, ?_, fun k => ⟨(s1 k).1, (s1 k).2.1, hg.blk (s1 k).2.2⟩, ?_, fun k => ⟨(s3 k).1, (s3 k).2.1, hg.blk (s3 k).2.2⟩⟩
      · intro ka kb
        obtain ⟨_, _, o, _, h4⟩ := x1 ka
        have := lt_of_block h4
        omega
      · intro ka kb
        obtain ⟨_, _, o, _, h4⟩ := x3 kb
        have := lt_of_block h4
        omega
      · intro k
        have := (s2 k).2.1
        rw [e] at this
        cases this
    · have hg := (Gr.refl w).alloc (.cells z3 t3 (0, 0))
      refine new3 v1 v2 v3 q1 q2 q3 w _ ⟨gr.trans hg, b1, b2, b3, b4, b5, true, b7, b8, b9, v1, v2, v3, q1, q2, _, g1, g2, w.heap.size, c1, c2, c3, f6, rfl, gr.trans hg, r1, r2, r3, fun k => (x1 k).gr hg, fun k => (x2 k).gr hg, fun _ => ⟨rfl, gr.size, z3, hz3, blk_new _ _⟩, ne12, ?_, ?_, fun k => ⟨(s1 k).1, (s1 k).2.1, hg.blk (s1 k).2.2⟩, fun k => ⟨(s2 k).1, (s2 k).2.1, hg.blk (s2 k).2.2⟩, ?_⟩
      · intro ka kb
        obtain ⟨_, _, o, _, h4⟩ := x1 ka
        have := lt_of_block h4
        omega
      · intro ka kb
        obtain ⟨_, _, o, _, h4⟩ := x2 ka
        have := lt_of_block h4
        omega
      · intro k
        have := (s3 k).2.1
        rw [e] at this
        cases this
    · subst e0 e1 e2 e3 e
      obtain ⟨rfl, k1⟩ := r1 rfl
      obtain ⟨rfl, k2, o, k3, k4⟩ := x1 rfl
      have d2 : g2 ≠ g1 := fun q => ne12 rfl rfl q.symm
      have d3 : g3 ≠ g1 := fun q => ne13 rfl rfl q.symm
      exact put1 c1 v2 v3 g1 q2 q3 w o _ k4 k3 k1 ⟨gr.row g1 k2 c1, true, b2, b3, true, true, true, true, b8, b9, _, v2, v3, _, q2, q3, g1, g2, g3, c1, c2, c3, f7, rfl, gr.row g1 k2 c1, fun _ => ⟨rfl, k1⟩, r2, r3, fun _ => ⟨rfl, k2, c1, hR1 _ k1, setRow_heap _ _ _ _ _ _ k4⟩, fun k => ⟨(x2 k).1, (x2 k).2.1, (by obtain ⟨o', h3, h4⟩ := (x2 k).2.2; exact ⟨o', h3, (setRow_other w g1 g2 c1 d2).trans h4⟩)⟩, fun k => ⟨(x3 k).1, (x3 k).2.1, (by obtain ⟨o', h3, h4⟩ := (x3 k).2.2; exact ⟨o', h3, (setRow_other w g1 g3 c1 d3).trans h4⟩)⟩, ne12, ne13, ne23, fun _ => ⟨rfl, rfl, setRow_heap _ _ _ _ _ _ k4⟩, fun k => ⟨(s2 k).1, (s2 k).2.1, (setRow_other w g1 g2 c1 d2).trans (s2 k).2.2⟩, fun k => ⟨(s3 k).1, (s3 k).2.1, (setRow_other w g1 g3 c1 d3).trans (s3 k).2.2⟩⟩
    · subst e0 e1 e2 e3 e
      obtain ⟨rfl, k1⟩ := r2 rfl
      obtain ⟨rfl, k2, o, k3, k4⟩ := x2 rfl
      have d1 : g1 ≠ g2 := fun q => ne12 rfl rfl q
      have d3 : g3 ≠ g2 := fun q => ne23 rfl rfl q.symm
      exact put2 v1 c2 v3 q1 g2 q3 w o _ k4 k3 k1 ⟨gr.row g2 k2 c2, b1, true, b3, true, true, true, b7, true, b9, v1, _, v3, q1, _, q3, g1, g2, g3, c1, c2, c3, f8, rfl, gr.row g2 k2 c2, r1, fun _ => ⟨rfl, k1⟩, r3, fun k => ⟨(x1 k).1, (x1 k).2.1, (by obtain ⟨o', h3, h4⟩ := (x1 k).2.2; exact ⟨o', h3, (setRow_other w g2 g1 c2 d1).trans h4⟩)⟩, fun _ => ⟨rfl, k2, c2, hR2 _ k1, setRow_heap _ _ _ _ _ _ k4⟩, fun k => ⟨(x3 k).1, (x3 k).2.1, (by obtain ⟨o', h3, h4⟩ := (x3 k).2.2; exact ⟨o', h3, (setRow_other w g2 g3 c2 d3).trans h4⟩)⟩, ne12, ne13, ne23, fun k => ⟨(s1 k).1, (s1 k).2.1, (setRow_other w g2 g1 c2 d1).trans (s1 k).2.2⟩, fun _ => ⟨rfl, rfl, setRow_heap _ _ _ _ _ _ k4⟩, fun k => ⟨(s3 k).1, (s3 k).2.1, (setRow_other w g2 g3 c2 d3).trans (s3 k).2.2⟩⟩
    · subst e0 e1 e2 e3 e
      obtain ⟨rfl, k1⟩ := r3 rfl
      obtain ⟨rfl, k2, o, k3, k4⟩ := x3 rfl
      have d1 : g1 ≠ g3 := fun q => ne13 rfl rfl q
      have d2 : g2 ≠ g3 := fun q => ne23 rfl rfl q
      exact put3 v1 v2 c3 q1 q2 g3 w o _ k4 k3 k1 ⟨gr.row g3 k2 c3, b1, b2, true, true, true, true, b7, b8, true, v1, v2, _, q1, q2, _, g1, g2, g3, c1, c2, c3, f9, rfl, gr.row g3 k2 c3, r1, r2, fun _ => ⟨rfl, k1⟩, fun k => ⟨(x1 k).1, (x1 k).2.1, (by obtain ⟨o', h3, h4⟩ := (x1 k).2.2; exact ⟨o', h3, (setRow_other w g3 g1 c3 d1).trans h4⟩)⟩, fun k => ⟨(x2 k).1, (x2 k).2.1, (by obtain ⟨o', h3, h4⟩ := (x2 k).2.2; exact ⟨o', h3, (setRow_other w g3 g2 c3 d2).trans h4⟩)⟩, fun _ => ⟨rfl, k2, c3, hR3 _ k1, setRow_heap _ _ _ _ _ _ k4⟩, ne12, ne13, ne23, fun k => ⟨(s1 k).1, (s1 k).2.1, (setRow_other w g3 g1 c3 d1).trans (s1 k).2.2⟩, fun k => ⟨(s2 k).1, (s2 k).2.1, (setRow_other w g3 g2 c3 d2).trans (s2 k).2.2⟩, fun _ => ⟨rfl, rfl, setRow_heap _ _ _ _ _ _ k4⟩⟩

def fr3 (a : Act) (d1 d2 d3 d4 d5 d6 : Nat) (v1 v2 v3 q1 q2 q3 : Value) : Act := (((((a.put (some d1) v1).put (some d2) v2).put (some d3) v3).put (some d4) q1).put (some d5) q2).put (some d6) q3
theorem fr3_self (a : Act) (d1 d2 d3 d4 d5 d6 : Nat) : a = fr3 a d1 d2 d3 d4 d5 d6 (a.tmps.getD d1 undef) (a.tmps.getD d2 undef) (a.tmps.getD d3 undef) (a.tmps.getD d4 undef) (a.tmps.getD d5 undef) (a.tmps.getD d6 undef) := by
  unfold fr3
  rw [put_self, put_self, put_self, put_self, put_self, put_self]
theorem d3_start (w0 : World) (a : Act) (d1 d2 d3 d4 d5 d6 : Nat) (F : Bool → Bool → Bool → Bool → Bool → Bool → Bool → Bool → Bool → Array Bool) (R1 R2 R3 : Array Value → Prop) (n1 n2 n3 : Nat) (t1 t2 t3 : TypeId) (l : Array Bool) (w : World) (hl : l = F false false false false false false false false false) (hg : Gr w0 w) :
    ∃ b1 b2 b3 b4 b5 b6 b7 b8 b9 v1 v2 v3 q1 q2 q3 g1 g2 g3 c1 c2 c3, D3 w0 (fr3 a d1 d2 d3 d4 d5 d6) F R1 R2 R3 n1 n2 n3 t1 t2 t3 b1 b2 b3 b4 b5 b6 b7 b8 b9 v1 v2 v3 q1 q2 q3 g1 g2 g3 c1 c2 c3 l a w :=
  ⟨false, false, false, false, false, false, false, false, false, _, _, _, _, _, _, 0, 0, 0, #[], #[], #[], hl, fr3_self a d1 d2 d3 d4 d5 d6, hg, (by intro h; cases h), (by intro h; cases h), (by intro h; cases h), (by intro h; cases h), (by intro h; cases h), (by intro h; cases h), (by intro h; cases h), (by intro h; cases h), (by intro h; cases h), (by intro h; cases h), (by intro h; cases h), (by intro h; cases h)⟩
end Go.Proofs.Ytjncnmhigikdoab
