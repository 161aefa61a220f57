/-
  A region that draws its order: 3 loads, two calls, two stores.
-/
import Derived.Test.YtjncnmhigikdoaaRegs
namespace Go.Proofs.Ytjncnmhigikdoaa
open Go.RowKit
set_option maxRecDepth 100000

structure A3 (m1 m2 : Bool → Bool → Bool → Bool) (W : World) (A : Value → Value → Value → Value → Value → Act) (F : Bool → Bool → Bool → Bool → Bool → Bool → Bool → Array Bool) (v1 v2 v3 : Value) (R1 R2 : Array Value → Prop) (g1 g2 : Nat)
    (b1 b2 b3 b4 b5 b6 b7 : Bool) (l1 l2 l3 x y : Value) (d1 d2 : Array Value) (l : Array Bool) (a : Act) (w : World) : Prop where
  hl : l = F b1 b2 b3 b4 b5 b6 b7
  ha : a = A l1 l2 l3 x y
  k1 : b1 = true → l1 = v1
  k2 : b2 = true → l2 = v2
  k3 : b3 = true → l3 = v3
  r1 : b4 = true → x = .agg d1 ∧ R1 d1
  r2 : b5 = true → y = .agg d2 ∧ R2 d2
  p0 : b6 = false → b7 = false → Gr W w
  p1 : b6 = true → b1 = true ∧ b2 = true ∧ b3 = true ∧ b4 = true ∧ b5 = true
  p2 : b6 = true → b7 = false → ∃ u, Gr W u ∧ w = u.setRow g1 d1
  p3 : b7 = true → b6 = true ∧ ∃ u, Gr W u ∧ w = (u.setRow g1 d1).setRow g2 d2
  z1 : b4 = true → m1 b1 b2 b3 = true
  z2 : b5 = true → m2 b1 b2 b3 = true

def chkA3 (md : Region.Mode) (ops : Array Oper) (F : Bool → Bool → Bool → Bool → Bool → Bool → Bool → Array Bool) (m1 m2 : Bool → Bool → Bool → Bool) (i1 i2 i3 i4 i5 i6 i7 : Nat) : Bool :=
  [false, true].all fun b1 => [false, true].all fun b2 => [false, true].all fun b3 => [false, true].all fun b4 => [false, true].all fun b5 => [false, true].all fun b6 => [false, true].all fun b7 =>
    (!((!b4 || m1 b1 b2 b3) && (!b5 || m2 b1 b2 b3)) || (((Region.ready md ops (F b1 b2 b3 b4 b5 b6 b7)).all fun i => (i == i1 && !b1) || (i == i2 && !b2) || (i == i3 && !b3) || (i == i4 && !b4 && (m1 b1 b2 b3)) || (i == i5 && !b5 && (m2 b1 b2 b3)) || (i == i6 && !b6 && b1 && b2 && b3 && b4 && b5) || (i == i7 && !b7 && b6)) && (!(Region.ready md ops (F b1 b2 b3 b4 b5 b6 b7)).isEmpty || b7))) && ((!m1 b1 b2 b3 || m1 true b2 b3) && (!m2 b1 b2 b3 || m2 true b2 b3) && (!m1 b1 b2 b3 || m1 b1 true b3) && (!m2 b1 b2 b3 || m2 b1 true b3) && (!m1 b1 b2 b3 || m1 b1 b2 true) && (!m2 b1 b2 b3 || m2 b1 b2 true))
theorem chkA3_spec {md : Region.Mode} {ops : Array Oper} {F : Bool → Bool → Bool → Bool → Bool → Bool → Bool → Array Bool} {m1 m2 : Bool → Bool → Bool → Bool} {i1 i2 i3 i4 i5 i6 i7 : Nat} (h : chkA3 md ops F m1 m2 i1 i2 i3 i4 i5 i6 i7 = true) :
    (∀ b1 b2 b3 b4 b5 b6 b7, (b4 = true → m1 b1 b2 b3 = true) → (b5 = true → m2 b1 b2 b3 = true) → ∀ i ∈ Region.ready md ops (F b1 b2 b3 b4 b5 b6 b7), (i = i1 ∧ b1 = false) ∨ (i = i2 ∧ b2 = false) ∨ (i = i3 ∧ b3 = false) ∨ (i = i4 ∧ b4 = false ∧ m1 b1 b2 b3 = true) ∨ (i = i5 ∧ b5 = false ∧ m2 b1 b2 b3 = true) ∨ (i = i6 ∧ b6 = false ∧ b1 = true ∧ b2 = true ∧ b3 = true ∧ b4 = true ∧ b5 = true) ∨ (i = i7 ∧ b7 = false ∧ b6 = true)) ∧
    (∀ b1 b2 b3 b4 b5 b6 b7, (b4 = true → m1 b1 b2 b3 = true) → (b5 = true → m2 b1 b2 b3 = true) → Region.ready md ops (F b1 b2 b3 b4 b5 b6 b7) = [] → b7 = true) ∧
    (∀ b1 b2 b3, (m1 b1 b2 b3 = true → m1 true b2 b3 = true) ∧ (m2 b1 b2 b3 = true → m2 true b2 b3 = true) ∧ (m1 b1 b2 b3 = true → m1 b1 true b3 = true) ∧ (m2 b1 b2 b3 = true → m2 b1 true b3 = true) ∧ (m1 b1 b2 b3 = true → m1 b1 b2 true = true) ∧ (m2 b1 b2 b3 = true → m2 b1 b2 true = true)) := by
  have mb : ∀ b : Bool, b ∈ [false, true] := by intro b; cases b <;> simp
  have zz : ∀ a b : Bool, (a = true → b = true) → (!a || b) = true := by
    intro a b h
    cases a
    · rfl
    · exact h rfl
  have h1 : ∀ b1 b2 b3 b4 b5 b6 b7, _ := fun b1 b2 b3 b4 b5 b6 b7 => (List.all_eq_true.1 (List.all_eq_true.1 (List.all_eq_true.1 (List.all_eq_true.1 (List.all_eq_true.1 (List.all_eq_true.1 (List.all_eq_true.1 h b1 (mb b1)) b2 (mb b2)) b3 (mb b3)) b4 (mb b4)) b5 (mb b5)) b6 (mb b6)) b7 (mb b7))
  have h3 : ∀ b1 b2 b3 b4 b5 b6 b7, (b4 = true → m1 b1 b2 b3 = true) → (b5 = true → m2 b1 b2 b3 = true) → (((Region.ready md ops (F b1 b2 b3 b4 b5 b6 b7)).all fun i => (i == i1 && !b1) || (i == i2 && !b2) || (i == i3 && !b3) || (i == i4 && !b4 && (m1 b1 b2 b3)) || (i == i5 && !b5 && (m2 b1 b2 b3)) || (i == i6 && !b6 && b1 && b2 && b3 && b4 && b5) || (i == i7 && !b7 && b6)) && (!(Region.ready md ops (F b1 b2 b3 b4 b5 b6 b7)).isEmpty || b7)) = true := by
    intro b1 b2 b3 b4 b5 b6 b7 q1 q2
    have h2 := (Bool.and_eq_true_iff.1 (h1 b1 b2 b3 b4 b5 b6 b7)).1
    rcases Bool.or_eq_true_iff.1 h2 with h4 | h4
    · rw [zz _ _ q1, zz _ _ q2] at h4
      cases h4
    · exact h4
  refine ⟨?_, ?_, ?_⟩
  · intro b1 b2 b3 b4 b5 b6 b7 q1 q2 i hi
    have h2 := List.all_eq_true.1 (Bool.and_eq_true_iff.1 (h3 b1 b2 b3 b4 b5 b6 b7 q1 q2)).1 i hi
    simp only [Bool.or_eq_true, Bool.and_eq_true, beq_iff_eq, Bool.not_eq_true', and_assoc, or_assoc] at h2
    exact h2
  · intro b1 b2 b3 b4 b5 b6 b7 q1 q2 hi
    have h2 := (Bool.and_eq_true_iff.1 (h3 b1 b2 b3 b4 b5 b6 b7 q1 q2)).2
    rw [hi] at h2
    simpa using h2
  · intro b1 b2 b3
    have h2 := (Bool.and_eq_true_iff.1 (h1 b1 b2 b3 false false false false)).2
    simp only [Bool.or_eq_true, Bool.and_eq_true, Bool.not_eq_true', and_assoc] at h2
    have im : ∀ a b : Bool, (a = false ∨ b = true) → (a = true → b = true) := by
      intro a b h k
      rcases h with h | h
      · rw [h] at k; cases k
      · exact h
    obtain ⟨u1, t1, u2, t2, u3, t3⟩ := h2
    exact ⟨im _ _ u1, im _ _ t1, im _ _ u2, im _ _ t2, im _ _ u3, im _ _ t3⟩

set_option maxHeartbeats 2000000 in
theorem assign3 {P : Program} {md : Region.Mode} {ops : Array Oper} {Q : Exit → Act → World → Prop} (W : World) (A : Value → Value → Value → Value → Value → Act) (F : Bool → Bool → Bool → Bool → Bool → Bool → Bool → Array Bool) (m1 m2 : Bool → Bool → Bool → Bool) (v1 v2 v3 : Value)
    (R1 R2 : Array Value → Prop) (g1 g2 : Nat) (i1 i2 i3 i4 i5 i6 i7 : Nat)
    (hchk : chkA3 md ops F m1 m2 i1 i2 i3 i4 i5 i6 i7 = true)
    (hF : ∀ b1 b2 b3 b4 b5 b6 b7, (F b1 b2 b3 b4 b5 b6 b7).setIfInBounds i1 true = F true b2 b3 b4 b5 b6 b7 ∧ (F b1 b2 b3 b4 b5 b6 b7).setIfInBounds i2 true = F b1 true b3 b4 b5 b6 b7 ∧ (F b1 b2 b3 b4 b5 b6 b7).setIfInBounds i3 true = F b1 b2 true b4 b5 b6 b7 ∧ (F b1 b2 b3 b4 b5 b6 b7).setIfInBounds i4 true = F b1 b2 b3 true b5 b6 b7 ∧ (F b1 b2 b3 b4 b5 b6 b7).setIfInBounds i5 true = F b1 b2 b3 b4 true b6 b7 ∧ (F b1 b2 b3 b4 b5 b6 b7).setIfInBounds i6 true = F b1 b2 b3 b4 b5 true b7 ∧ (F b1 b2 b3 b4 b5 b6 b7).setIfInBounds i7 true = F b1 b2 b3 b4 b5 b6 true)
    (load1 : ∀ l1 l2 l3 x y w (K : Act → World → Prop), Gr W w → K (A v1 l2 l3 x y) w → wpOp P ops Q i1 K (A l1 l2 l3 x y) w)
    (load2 : ∀ l1 l2 l3 x y w (K : Act → World → Prop), Gr W w → K (A l1 v2 l3 x y) w → wpOp P ops Q i2 K (A l1 l2 l3 x y) w)
    (load3 : ∀ l1 l2 l3 x y w (K : Act → World → Prop), Gr W w → K (A l1 l2 v3 x y) w → wpOp P ops Q i3 K (A l1 l2 l3 x y) w)
    (call1 : ∀ b1 b2 b3 l1 l2 l3 x y w (K : Act → World → Prop), m1 b1 b2 b3 = true → (b1 = true → l1 = v1) → (b2 = true → l2 = v2) → (b3 = true → l3 = v3) → Gr W w → (∀ d w', R1 d → Gr w w' → K (A l1 l2 l3 (.agg d) y) w') → wpOp P ops Q i4 K (A l1 l2 l3 x y) w)
    (call2 : ∀ b1 b2 b3 l1 l2 l3 x y w (K : Act → World → Prop), m2 b1 b2 b3 = true → (b1 = true → l1 = v1) → (b2 = true → l2 = v2) → (b3 = true → l3 = v3) → Gr W w → (∀ d w', R2 d → Gr w w' → K (A l1 l2 l3 x (.agg d)) w') → wpOp P ops Q i5 K (A l1 l2 l3 x y) w)
    (put1 : ∀ l1 l2 l3 d y w (K : Act → World → Prop), Gr W w → R1 d → K (A l1 l2 l3 (.agg d) y) (w.setRow g1 d) → wpOp P ops Q i6 K (A l1 l2 l3 (.agg d) y) w)
    (put2 : ∀ l1 l2 l3 d1 d2 u (K : Act → World → Prop), Gr W u → R1 d1 → R2 d2 → K (A l1 l2 l3 (.agg d1) (.agg d2)) ((u.setRow g1 d1).setRow g2 d2) → wpOp P ops Q i7 K (A l1 l2 l3 (.agg d1) (.agg d2)) (u.setRow g1 d1))
    (post : ∀ d1 d2 u, Gr W u → R1 d1 → R2 d2 → Q .normal (A v1 v2 v3 (.agg d1) (.agg d2)) ((u.setRow g1 d1).setRow g2 d2))
    (fuel : Nat) (l : Array Bool) (a : Act) (w : World) (hfu : (l.toList.filter (!·)).length ≤ fuel)
    (h : ∃ b1 b2 b3 b4 b5 b6 b7 l1 l2 l3 x y d1 d2, A3 m1 m2 W A F v1 v2 v3 R1 R2 g1 g2 b1 b2 b3 b4 b5 b6 b7 l1 l2 l3 x y d1 d2 l a w) : wpAnyH P md ops Q (fun _ => True) fuel l a w := by
  obtain ⟨hr, hd, hmo⟩ := chkA3_spec hchk
  refine wpAnyH_inv (fun l a w => ∃ b1 b2 b3 b4 b5 b6 b7 l1 l2 l3 x y d1 d2, A3 m1 m2 W A F v1 v2 v3 R1 R2 g1 g2 b1 b2 b3 b4 b5 b6 b7 l1 l2 l3 x y d1 d2 l a w) ?_ ?_ fuel l a w hfu h
  · rintro l a w ⟨b1, b2, b3, b4, b5, b6, b7, l1, l2, l3, x, y, d1, d2, hl, ha, k1, k2, k3, r1, r2, p0, p1, p2, p3, z1, z2⟩ hrd
    subst hl ha
    have e := hd _ _ _ _ _ _ _ z1 z2 hrd
    obtain ⟨e1, u, hu, rfl⟩ := p3 e
    obtain ⟨q1, q2, q3, q5, q6⟩ := p1 e1
    obtain ⟨rfl, h1⟩ := r1 q5
    obtain ⟨rfl, h2⟩ := r2 q6
    obtain rfl := k1 q1
    obtain rfl := k2 q2
    obtain rfl := k3 q3
    exact post d1 d2 u hu h1 h2
  · rintro l a w ⟨b1, b2, b3, b4, b5, b6, b7, l1, l2, l3, x, y, d1, d2, hl, ha, k1, k2, k3, r1, r2, p0, p1, p2, p3, z1, z2⟩ i hi
    subst hl ha
    obtain ⟨f1, f2, f3, f4, f5, f6, f7⟩ := hF b1 b2 b3 b4 b5 b6 b7
    obtain ⟨mo1, mp1, mo2, mp2, mo3, mp3⟩ := hmo b1 b2 b3
    rcases hr b1 b2 b3 b4 b5 b6 b7 z1 z2 i hi with ⟨rfl, e⟩ | ⟨rfl, e⟩ | ⟨rfl, e⟩ | ⟨rfl, e, em⟩ | ⟨rfl, e, em⟩ | ⟨rfl, e, e1, e2, e3, e4, e5⟩ | ⟨rfl, e, e7⟩
    · have hs1 : b6 = false := by cases hq : b6 with | false => rfl | true => have := (p1 hq).1; rw [e] at this; cases this
      have hs2 : b7 = false := by cases hq : b7 with | false => rfl | true => have := (p3 hq).1; rw [hs1] at this; cases this
      exact load1 l1 l2 l3 x y w _ (p0 hs1 hs2) ⟨trivial, true, b2, b3, b4, b5, b6, b7, _, l2, l3, x, y, d1, d2, f1, rfl, fun _ => rfl, k2, k3, r1, r2, p0, (fun h => absurd (hs1 ▸ h) (by simp)), p2, p3, (fun h => mo1 (z1 h)), (fun h => mp1 (z2 h))⟩
    · have hs1 : b6 = false := by cases hq : b6 with | false => rfl | true => have := (p1 hq).2.1; rw [e] at this; cases this
      have hs2 : b7 = false := by cases hq : b7 with | false => rfl | true => have := (p3 hq).1; rw [hs1] at this; cases this
      exact load2 l1 l2 l3 x y w _ (p0 hs1 hs2) ⟨trivial, b1, true, b3, b4, b5, b6, b7, l1, _, l3, x, y, d1, d2, f2, rfl, k1, fun _ => rfl, k3, r1, r2, p0, (fun h => absurd (hs1 ▸ h) (by simp)), p2, p3, (fun h => mo2 (z1 h)), (fun h => mp2 (z2 h))⟩
    · have hs1 : b6 = false := by cases hq : b6 with | false => rfl | true => have := (p1 hq).2.2.1; rw [e] at this; cases this
      have hs2 : b7 = false := by cases hq : b7 with | false => rfl | true => have := (p3 hq).1; rw [hs1] at this; cases this
      exact load3 l1 l2 l3 x y w _ (p0 hs1 hs2) ⟨trivial, b1, b2, true, b4, b5, b6, b7, l1, l2, _, x, y, d1, d2, f3, rfl, k1, k2, fun _ => rfl, r1, r2, p0, (fun h => absurd (hs1 ▸ h) (by simp)), p2, p3, (fun h => mo3 (z1 h)), (fun h => mp3 (z2 h))⟩
    · have hs1 : b6 = false := by cases hq : b6 with | false => rfl | true => have := (p1 hq).2.2.2.1; rw [e] at this; cases this
      have hs2 : b7 = false := by cases hq : b7 with | false => rfl | true => have := (p3 hq).1; rw [hs1] at this; cases this
      refine call1 b1 b2 b3 l1 l2 l3 x y w _ em k1 k2 k3 (p0 hs1 hs2) (fun d w' hc hg => ⟨trivial, b1, b2, b3, true, b5, b6, b7, l1, l2, l3, _, y, d, d2, f4, rfl, k1, k2, k3, fun _ => ⟨rfl, hc⟩, r2, (fun _ _ => (p0 hs1 hs2).trans hg), (fun h => absurd (hs1 ▸ h) (by simp)), (fun h => absurd (hs1 ▸ h) (by simp)), (fun h => absurd (hs2 ▸ h) (by simp)), (fun _ => em), z2⟩)
    · have hs1 : b6 = false := by cases hq : b6 with | false => rfl | true => have := (p1 hq).2.2.2.2; rw [e] at this; cases this
      have hs2 : b7 = false := by cases hq : b7 with | false => rfl | true => have := (p3 hq).1; rw [hs1] at this; cases this
      refine call2 b1 b2 b3 l1 l2 l3 x y w _ em k1 k2 k3 (p0 hs1 hs2) (fun d w' hc hg => ⟨trivial, b1, b2, b3, b4, true, b6, b7, l1, l2, l3, x, _, d1, d, f5, rfl, k1, k2, k3, r1, fun _ => ⟨rfl, hc⟩, (fun _ _ => (p0 hs1 hs2).trans hg), (fun h => absurd (hs1 ▸ h) (by simp)), (fun h => absurd (hs1 ▸ h) (by simp)), (fun h => absurd (hs2 ▸ h) (by simp)), z1, (fun _ => em)⟩)
    · have hs2 : b7 = false := by cases hq : b7 with | false => rfl | true => have := (p3 hq).1; rw [e] at this; cases this
      have hw := p0 e hs2
      obtain ⟨rfl, h1⟩ := r1 e4
      exact put1 l1 l2 l3 d1 y w _ hw h1 ⟨trivial, b1, b2, b3, b4, b5, true, b7, l1, l2, l3, _, y, d1, d2, f6, rfl, k1, k2, k3, (fun _ => ⟨rfl, h1⟩), r2, (fun h => by cases h), (fun _ => ⟨e1, e2, e3, e4, e5⟩), (fun _ _ => ⟨w, hw, rfl⟩), (fun h => absurd (hs2 ▸ h) (by simp)), z1, z2⟩
    · obtain ⟨u, hu, rfl⟩ := p2 e7 e
      have q := p1 e7
      obtain ⟨rfl, h1⟩ := r1 q.2.2.2.1
      obtain ⟨rfl, h2⟩ := r2 q.2.2.2.2
      exact put2 l1 l2 l3 d1 d2 u _ hu h1 h2 ⟨trivial, b1, b2, b3, b4, b5, b6, true, l1, l2, l3, _, _, d1, d2, f7, rfl, k1, k2, k3, (fun _ => ⟨rfl, h1⟩), (fun _ => ⟨rfl, h2⟩), (fun _ h => by cases h), (fun _ => q), (fun _ h => by cases h), (fun _ => ⟨e7, u, hu, rfl⟩), z1, z2⟩

def fa3 (a : Act) (d1 d2 d3 d4 d5 : Nat) (l1 l2 l3 x y : Value) : Act := ((((a.put (some d1) l1).put (some d2) l2).put (some d3) l3).put (some d4) x).put (some d5) y
theorem fa3_self (a : Act) (d1 d2 d3 d4 d5 : Nat) : a = fa3 a d1 d2 d3 d4 d5 (a.tmps.getD d1 undef) (a.tmps.getD d2 undef) (a.tmps.getD d3 undef) (a.tmps.getD d4 undef) (a.tmps.getD d5 undef) := by
  unfold fa3
  rw [put_self, put_self, put_self, put_self, put_self]
theorem a3_start (m1 m2 : Bool → Bool → Bool → Bool) (W : World) (a : Act) (d1 d2 d3 d4 d5 : Nat) (F : Bool → Bool → Bool → Bool → Bool → Bool → Bool → Array Bool) (v1 v2 v3 : Value) (R1 R2 : Array Value → Prop) (g1 g2 : Nat) (l : Array Bool) (w : World) (hl : l = F false false false false false false false) (hg : Gr W w) :
    ∃ b1 b2 b3 b4 b5 b6 b7 l1 l2 l3 x y e1 e2, A3 m1 m2 W (fa3 a d1 d2 d3 d4 d5) F v1 v2 v3 R1 R2 g1 g2 b1 b2 b3 b4 b5 b6 b7 l1 l2 l3 x y e1 e2 l a w :=
  ⟨false, false, false, false, false, false, false, _, _, _, _, _, #[], #[], hl, fa3_self a d1 d2 d3 d4 d5, (by intro h; cases h), (by intro h; cases h), (by intro h; cases h), (by intro h; cases h), (by intro h; cases h), (fun _ _ => hg), (by intro h; cases h), (by intro h; cases h), (by intro h; cases h), (by intro h; cases h), (by intro h; cases h)⟩
end Go.Proofs.Ytjncnmhigikdoaa
