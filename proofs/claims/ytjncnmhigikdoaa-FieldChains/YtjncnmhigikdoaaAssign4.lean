/-
  A region that draws its order: 4 loads, two calls, two stores.
-/
import Derived.Test.YtjncnmhigikdoaaRegs
namespace Go.Proofs.Ytjncnmhigikdoaa
open Go.RowKit
set_option maxRecDepth 100000

structure A4 (m1 m2 : Bool → Bool → Bool → Bool → Bool) (W : World) (A : Value → Value → Value → Value → Value → Value → Act) (F : Bool → Bool → Bool → Bool → Bool → Bool → Bool → Bool → Array Bool) (v1 v2 v3 v4 : Value) (R1 R2 : Array Value → Prop) (g1 g2 : Nat)
    (b1 b2 b3 b4 b5 b6 b7 b8 : Bool) (l1 l2 l3 l4 x y : Value) (d1 d2 : Array Value) (l : Array Bool) (a : Act) (w : World) : Prop where
  hl : l = F b1 b2 b3 b4 b5 b6 b7 b8
  ha : a = A l1 l2 l3 l4 x y
  k1 : b1 = true → l1 = v1
  k2 : b2 = true → l2 = v2
  k3 : b3 = true → l3 = v3
  k4 : b4 = true → l4 = v4
  r1 : b5 = true → x = .agg d1 ∧ R1 d1
  r2 : b6 = true → y = .agg d2 ∧ R2 d2
  p0 : b7 = false → b8 = false → Gr W w
  p1 : b7 = true → b1 = true ∧ b2 = true ∧ b3 = true ∧ b4 = true ∧ b5 = true ∧ b6 = true
  p2 : b7 = true → b8 = false → ∃ u, Gr W u ∧ w = u.setRow g1 d1
  p3 : b8 = true → b7 = true ∧ ∃ u, Gr W u ∧ w = (u.setRow g1 d1).setRow g2 d2
  z1 : b5 = true → m1 b1 b2 b3 b4 = true
  z2 : b6 = true → m2 b1 b2 b3 b4 = true

def chkA4 (md : Region.Mode) (ops : Array Oper) (F : Bool → Bool → Bool → Bool → Bool → Bool → Bool → Bool → Array Bool) (m1 m2 : Bool → Bool → Bool → Bool → Bool) (i1 i2 i3 i4 i5 i6 i7 i8 : Nat) : Bool :=
  [false, true].all fun b1 => [false, true].all fun b2 => [false, true].all fun b3 => [false, true].all fun b4 => [false, true].all fun b5 => [false, true].all fun b6 => [false, true].all fun b7 => [false, true].all fun b8 =>
    (!((!b5 || m1 b1 b2 b3 b4) && (!b6 || m2 b1 b2 b3 b4)) || (((Region.ready md ops (F b1 b2 b3 b4 b5 b6 b7 b8)).all fun i => (i == i1 && !b1) || (i == i2 && !b2) || (i == i3 && !b3) || (i == i4 && !b4) || (i == i5 && !b5 && (m1 b1 b2 b3 b4)) || (i == i6 && !b6 && (m2 b1 b2 b3 b4)) || (i == i7 && !b7 && b1 && b2 && b3 && b4 && b5 && b6) || (i == i8 && !b8 && b7)) && (!(Region.ready md ops (F b1 b2 b3 b4 b5 b6 b7 b8)).isEmpty || b8))) && ((!m1 b1 b2 b3 b4 || m1 true b2 b3 b4) && (!m2 b1 b2 b3 b4 || m2 true b2 b3 b4) && (!m1 b1 b2 b3 b4 || m1 b1 true b3 b4) && (!m2 b1 b2 b3 b4 || m2 b1 true b3 b4) && (!m1 b1 b2 b3 b4 || m1 b1 b2 true b4) && (!m2 b1 b2 b3 b4 || m2 b1 b2 true b4) && (!m1 b1 b2 b3 b4 || m1 b1 b2 b3 true) && (!m2 b1 b2 b3 b4 || m2 b1 b2 b3 true))
theorem chkA4_spec {md : Region.Mode} {ops : Array Oper} {F : Bool → Bool → Bool → Bool → Bool → Bool → Bool → Bool → Array Bool} {m1 m2 : Bool → Bool → Bool → Bool → Bool} {i1 i2 i3 i4 i5 i6 i7 i8 : Nat} (h : chkA4 md ops F m1 m2 i1 i2 i3 i4 i5 i6 i7 i8 = true) :
    (∀ b1 b2 b3 b4 b5 b6 b7 b8, (b5 = true → m1 b1 b2 b3 b4 = true) → (b6 = true → m2 b1 b2 b3 b4 = true) → ∀ i ∈ Region.ready md ops (F b1 b2 b3 b4 b5 b6 b7 b8), (i = i1 ∧ b1 = false) ∨ (i = i2 ∧ b2 = false) ∨ (i = i3 ∧ b3 = false) ∨ (i = i4 ∧ b4 = false) ∨ (i = i5 ∧ b5 = false ∧ m1 b1 b2 b3 b4 = true) ∨ (i = i6 ∧ b6 = false ∧ m2 b1 b2 b3 b4 = true) ∨ (i = i7 ∧ b7 = false ∧ b1 = true ∧ b2 = true ∧ b3 = true ∧ b4 = true ∧ b5 = true ∧ b6 = true) ∨ (i = i8 ∧ b8 = false ∧ b7 = true)) ∧
    (∀ b1 b2 b3 b4 b5 b6 b7 b8, (b5 = true → m1 b1 b2 b3 b4 = true) → (b6 = true → m2 b1 b2 b3 b4 = true) → Region.ready md ops (F b1 b2 b3 b4 b5 b6 b7 b8) = [] → b8 = true) ∧
    (∀ b1 b2 b3 b4, (m1 b1 b2 b3 b4 = true → m1 true b2 b3 b4 = true) ∧ (m2 b1 b2 b3 b4 = true → m2 true b2 b3 b4 = true) ∧ (m1 b1 b2 b3 b4 = true → m1 b1 true b3 b4 = true) ∧ (m2 b1 b2 b3 b4 = true → m2 b1 true b3 b4 = true) ∧ (m1 b1 b2 b3 b4 = true → m1 b1 b2 true b4 = true) ∧ (m2 b1 b2 b3 b4 = true → m2 b1 b2 true b4 = true) ∧ (m1 b1 b2 b3 b4 = true → m1 b1 b2 b3 true = true) ∧ (m2 b1 b2 b3 b4 = true → m2 b1 b2 b3 true = true)) := by
  have mb : ∀ b : Bool, b ∈ [false, true] := by intro b; cases b <;> simp
  have zz : ∀ a b : Bool, (a = true → b = true) → (!a || b) = true := by
    intro a b h
    cases a
    · rfl
    · exact h rfl
  have h1 : ∀ b1 b2 b3 b4 b5 b6 b7 b8, _ := fun b1 b2 b3 b4 b5 b6 b7 b8 => (List.all_eq_true.1 (List.all_eq_true.1 (List.all_eq_true.1 (List.all_eq_true.1 (List.all_eq_true.1 (List.all_eq_true.1 (List.all_eq_true.1 (List.all_eq_true.1 h b1 (mb b1)) b2 (mb b2)) b3 (mb b3)) b4 (mb b4)) b5 (mb b5)) b6 (mb b6)) b7 (mb b7)) b8 (mb b8))
  have h3 : ∀ b1 b2 b3 b4 b5 b6 b7 b8, (b5 = true → m1 b1 b2 b3 b4 = true) → (b6 = true → m2 b1 b2 b3 b4 = true) → (((Region.ready md ops (F b1 b2 b3 b4 b5 b6 b7 b8)).all fun i => (i == i1 && !b1) || (i == i2 && !b2) || (i == i3 && !b3) || (i == i4 && !b4) || (i == i5 && !b5 && (m1 b1 b2 b3 b4)) || (i == i6 && !b6 && (m2 b1 b2 b3 b4)) || (i == i7 && !b7 && b1 && b2 && b3 && b4 && b5 && b6) || (i == i8 && !b8 && b7)) && (!(Region.ready md ops (F b1 b2 b3 b4 b5 b6 b7 b8)).isEmpty || b8)) = true := by
    intro b1 b2 b3 b4 b5 b6 b7 b8 q1 q2
    have h2 := (Bool.and_eq_true_iff.1 (h1 b1 b2 b3 b4 b5 b6 b7 b8)).1
    rcases Bool.or_eq_true_iff.1 h2 with h4 | h4
    · rw [zz _ _ q1, zz _ _ q2] at h4
      cases h4
    · exact h4
  refine ⟨?_, ?_, ?_⟩
  · intro b1 b2 b3 b4 b5 b6 b7 b8 q1 q2 i hi
    have h2 := List.all_eq_true.1 (Bool.and_eq_true_iff.1 (h3 b1 b2 b3 b4 b5 b6 b7 b8 q1 q2)).1 i hi
    simp only [Bool.or_eq_true, Bool.and_eq_true, beq_iff_eq, Bool.not_eq_true', and_assoc, or_assoc] at h2
    exact h2
  · intro b1 b2 b3 b4 b5 b6 b7 b8 q1 q2 hi
    have h2 := (Bool.and_eq_true_iff.1 (h3 b1 b2 b3 b4 b5 b6 b7 b8 q1 q2)).2
    rw [hi] at h2
    simpa using h2
  · intro b1 b2 b3 b4
    have h2 := (Bool.and_eq_true_iff.1 (h1 b1 b2 b3 b4 false false false false)).2
    simp only [Bool.or_eq_true, Bool.and_eq_true, Bool.not_eq_true', and_assoc] at h2
    have im : ∀ a b : Bool, (a = false ∨ b = true) → (a = true → b = true) := by
      intro a b h k
      rcases h with h | h
      · rw [h] at k; cases k
      · exact h
    obtain ⟨u1, t1, u2, t2, u3, t3, u4, t4⟩ := h2
    exact ⟨im _ _ u1, im _ _ t1, im _ _ u2, im _ _ t2, im _ _ u3, im _ _ t3, im _ _ u4, im _ _ t4⟩

set_option maxHeartbeats 2000000 in
theorem assign4 {P : Program} {md : Region.Mode} {ops : Array Oper} {Q : Exit → Act → World → Prop} (W : World) (A : Value → Value → Value → Value → Value → Value → Act) (F : Bool → Bool → Bool → Bool → Bool → Bool → Bool → Bool → Array Bool) (m1 m2 : Bool → Bool → Bool → Bool → Bool) (v1 v2 v3 v4 : Value)
    (R1 R2 : Array Value → Prop) (g1 g2 : Nat) (i1 i2 i3 i4 i5 i6 i7 i8 : Nat)
    (hchk : chkA4 md ops F m1 m2 i1 i2 i3 i4 i5 i6 i7 i8 = true)
    (hF : ∀ b1 b2 b3 b4 b5 b6 b7 b8, (F b1 b2 b3 b4 b5 b6 b7 b8).setIfInBounds i1 true = F true b2 b3 b4 b5 b6 b7 b8 ∧ (F b1 b2 b3 b4 b5 b6 b7 b8).setIfInBounds i2 true = F b1 true b3 b4 b5 b6 b7 b8 ∧ (F b1 b2 b3 b4 b5 b6 b7 b8).setIfInBounds i3 true = F b1 b2 true b4 b5 b6 b7 b8 ∧ (F b1 b2 b3 b4 b5 b6 b7 b8).setIfInBounds i4 true = F b1 b2 b3 true b5 b6 b7 b8 ∧ (F b1 b2 b3 b4 b5 b6 b7 b8).setIfInBounds i5 true = F b1 b2 b3 b4 true b6 b7 b8 ∧ (F b1 b2 b3 b4 b5 b6 b7 b8).setIfInBounds i6 true = F b1 b2 b3 b4 b5 true b7 b8 ∧ (F b1 b2 b3 b4 b5 b6 b7 b8).setIfInBounds i7 true = F b1 b2 b3 b4 b5 b6 true b8 ∧ (F b1 b2 b3 b4 b5 b6 b7 b8).setIfInBounds i8 true = F b1 b2 b3 b4 b5 b6 b7 true)
    (load1 : ∀ l1 l2 l3 l4 x y w (K : Act → World → Prop), Gr W w → K (A v1 l2 l3 l4 x y) w → wpOp P ops Q i1 K (A l1 l2 l3 l4 x y) w)
    (load2 : ∀ l1 l2 l3 l4 x y w (K : Act → World → Prop), Gr W w → K (A l1 v2 l3 l4 x y) w → wpOp P ops Q i2 K (A l1 l2 l3 l4 x y) w)
    (load3 : ∀ l1 l2 l3 l4 x y w (K : Act → World → Prop), Gr W w → K (A l1 l2 v3 l4 x y) w → wpOp P ops Q i3 K (A l1 l2 l3 l4 x y) w)
    (load4 : ∀ l1 l2 l3 l4 x y w (K : Act → World → Prop), Gr W w → K (A l1 l2 l3 v4 x y) w → wpOp P ops Q i4 K (A l1 l2 l3 l4 x y) w)
    (call1 : ∀ b1 b2 b3 b4 l1 l2 l3 l4 x y w (K : Act → World → Prop), m1 b1 b2 b3 b4 = true → (b1 = true → l1 = v1) → (b2 = true → l2 = v2) → (b3 = true → l3 = v3) → (b4 = true → l4 = v4) → Gr W w → (∀ d w', R1 d → Gr w w' → K (A l1 l2 l3 l4 (.agg d) y) w') → wpOp P ops Q i5 K (A l1 l2 l3 l4 x y) w)
    (call2 : ∀ b1 b2 b3 b4 l1 l2 l3 l4 x y w (K : Act → World → Prop), m2 b1 b2 b3 b4 = true → (b1 = true → l1 = v1) → (b2 = true → l2 = v2) → (b3 = true → l3 = v3) → (b4 = true → l4 = v4) → Gr W w → (∀ d w', R2 d → Gr w w' → K (A l1 l2 l3 l4 x (.agg d)) w') → wpOp P ops Q i6 K (A l1 l2 l3 l4 x y) w)
    (put1 : ∀ l1 l2 l3 l4 d y w (K : Act → World → Prop), Gr W w → R1 d → K (A l1 l2 l3 l4 (.agg d) y) (w.setRow g1 d) → wpOp P ops Q i7 K (A l1 l2 l3 l4 (.agg d) y) w)
    (put2 : ∀ l1 l2 l3 l4 d1 d2 u (K : Act → World → Prop), Gr W u → R1 d1 → R2 d2 → K (A l1 l2 l3 l4 (.agg d1) (.agg d2)) ((u.setRow g1 d1).setRow g2 d2) → wpOp P ops Q i8 K (A l1 l2 l3 l4 (.agg d1) (.agg d2)) (u.setRow g1 d1))
    (post : ∀ d1 d2 u, Gr W u → R1 d1 → R2 d2 → Q .normal (A v1 v2 v3 v4 (.agg d1) (.agg d2)) ((u.setRow g1 d1).setRow g2 d2))
    (fuel : Nat) (l : Array Bool) (a : Act) (w : World) (hfu : (l.toList.filter (!·)).length ≤ fuel)
    (h : ∃ b1 b2 b3 b4 b5 b6 b7 b8 l1 l2 l3 l4 x y d1 d2, A4 m1 m2 W A F v1 v2 v3 v4 R1 R2 g1 g2 b1 b2 b3 b4 b5 b6 b7 b8 l1 l2 l3 l4 x y d1 d2 l a w) : wpAnyH P md ops Q (fun _ => True) fuel l a w := by
  obtain ⟨hr, hd, hmo⟩ := chkA4_spec hchk
  refine wpAnyH_inv (fun l a w => ∃ b1 b2 b3 b4 b5 b6 b7 b8 l1 l2 l3 l4 x y d1 d2, A4 m1 m2 W A F v1 v2 v3 v4 R1 R2 g1 g2 b1 b2 b3 b4 b5 b6 b7 b8 l1 l2 l3 l4 x y d1 d2 l a w) ?_ ?_ fuel l a w hfu h
  · rintro l a w ⟨b1, b2, b3, b4, b5, b6, b7, b8, l1, l2, l3, l4, x, y, d1, d2, hl, ha, k1, k2, k3, k4, r1, r2, p0, p1, p2, p3, z1, z2⟩ hrd
    subst hl ha
    have e := hd _ _ _ _ _ _ _ _ z1 z2 hrd
    obtain ⟨e1, u, hu, rfl⟩ := p3 e
    obtain ⟨q1, q2, q3, q4, q5, q6⟩ := p1 e1
    obtain ⟨rfl, h1⟩ := r1 q5
    obtain ⟨rfl, h2⟩ := r2 q6
    obtain rfl := k1 q1
    obtain rfl := k2 q2
    obtain rfl := k3 q3
    obtain rfl := k4 q4
    exact post d1 d2 u hu h1 h2
  · rintro l a w ⟨b1, b2, b3, b4, b5, b6, b7, b8, l1, l2, l3, l4, x, y, d1, d2, hl, ha, k1, k2, k3, k4, r1, r2, p0, p1, p2, p3, z1, z2⟩ i hi
    subst hl ha
    obtain ⟨f1, f2, f3, f4, f5, f6, f7, f8⟩ := hF b1 b2 b3 b4 b5 b6 b7 b8
    obtain ⟨mo1, mp1, mo2, mp2, mo3, mp3, mo4, mp4⟩ := hmo b1 b2 b3 b4
    rcases hr b1 b2 b3 b4 b5 b6 b7 b8 z1 z2 i hi with ⟨rfl, e⟩ | ⟨rfl, e⟩ | ⟨rfl, e⟩ | ⟨rfl, e⟩ | ⟨rfl, e, em⟩ | ⟨rfl, e, em⟩ | ⟨rfl, e, e1, e2, e3, e4, e5, e6⟩ | ⟨rfl, e, e7⟩
    · have hs1 : b7 = false := by cases hq : b7 with | false => rfl | true => have := (p1 hq).1; rw [e] at this; cases this
      have hs2 : b8 = false := by cases hq : b8 with | false => rfl | true => have := (p3 hq).1; rw [hs1] at this; cases this
      exact load1 l1 l2 l3 l4 x y w _ (p0 hs1 hs2) ⟨trivial, true, b2, b3, b4, b5, b6, b7, b8, _, l2, l3, l4, x, y, d1, d2, f1, rfl, fun _ => rfl, k2, k3, k4, r1, r2, p0, (fun h => absurd (hs1 ▸ h) (by simp)), p2, p3, (fun h => mo1 (z1 h)), (fun h => mp1 (z2 h))⟩
    · have hs1 : b7 = false := by cases hq : b7 with | false => rfl | true => have := (p1 hq).2.1; rw [e] at this; cases this
      have hs2 : b8 = false := by cases hq : b8 with | false => rfl | true => have := (p3 hq).1; rw [hs1] at this; cases this
      exact load2 l1 l2 l3 l4 x y w _ (p0 hs1 hs2) ⟨trivial, b1, true, b3, b4, b5, b6, b7, b8, l1, _, l3, l4, x, y, d1, d2, f2, rfl, k1, fun _ => rfl, k3, k4, r1, r2, p0, (fun h => absurd (hs1 ▸ h) (by simp)), p2, p3, (fun h => mo2 (z1 h)), (fun h => mp2 (z2 h))⟩
    · have hs1 : b7 = false := by cases hq : b7 with | false => rfl | true => have := (p1 hq).2.2.1; rw [e] at this; cases this
      have hs2 : b8 = false := by cases hq : b8 with | false => rfl | true => have := (p3 hq).1; rw [hs1] at this; cases this
      exact load3 l1 l2 l3 l4 x y w _ (p0 hs1 hs2) ⟨trivial, b1, b2, true, b4, b5, b6, b7, b8, l1, l2, _, l4, x, y, d1, d2, f3, rfl, k1, k2, fun _ => rfl, k4, r1, r2, p0, (fun h => absurd (hs1 ▸ h) (by simp)), p2, p3, (fun h => mo3 (z1 h)), (fun h => mp3 (z2 h))⟩
    · have hs1 : b7 = false := by cases hq : b7 with | false => rfl | true => have := (p1 hq).2.2.2.1; rw [e] at this; cases this
      have hs2 : b8 = false := by cases hq : b8 with | false => rfl | true => have := (p3 hq).1; rw [hs1] at this; cases this
      exact load4 l1 l2 l3 l4 x y w _ (p0 hs1 hs2) ⟨trivial, b1, b2, b3, true, b5, b6, b7, b8, l1, l2, l3, _, x, y, d1, d2, f4, rfl, k1, k2, k3, fun _ => rfl, r1, r2, p0, (fun h => absurd (hs1 ▸ h) (by simp)), p2, p3, (fun h => mo4 (z1 h)), (fun h => mp4 (z2 h))⟩
    · have hs1 : b7 = false := by cases hq : b7 with | false => rfl | true => have := (p1 hq).2.2.2.2.1; rw [e] at this; cases this
      have hs2 : b8 = false := by cases hq : b8 with | false => rfl | true => have := (p3 hq).1; rw [hs1] at this; cases this
      refine call1 b1 b2 b3 b4 l1 l2 l3 l4 x y w _ em k1 k2 k3 k4 (p0 hs1 hs2) (fun d w' hc hg => ⟨trivial, b1, b2, b3, b4, true, b6, b7, b8, l1, l2, l3, l4, _, y, d, d2, f5, rfl, k1, k2, k3, k4, fun _ => ⟨rfl, hc⟩, r2, (fun _ _ => (p0 hs1 hs2).trans hg), (fun h => absurd (hs1 ▸ h) (by simp)), (fun h => absurd (hs1 ▸ h) (by simp)), (fun h => absurd (hs2 ▸ h) (by simp)), (fun _ => em), z2⟩)
    · have hs1 : b7 = false := by cases hq : b7 with | false => rfl | true => have := (p1 hq).2.2.2.2.2; rw [e] at this; cases this
      have hs2 : b8 = false := by cases hq : b8 with | false => rfl | true => have := (p3 hq).1; rw [hs1] at this; cases this
      refine call2 b1 b2 b3 b4 l1 l2 l3 l4 x y w _ em k1 k2 k3 k4 (p0 hs1 hs2) (fun d w' hc hg => ⟨trivial, b1, b2, b3, b4, b5, true, b7, b8, l1, l2, l3, l4, x, _, d1, d, f6, rfl, k1, k2, k3, k4, r1, fun _ => ⟨rfl, hc⟩, (fun _ _ => (p0 hs1 hs2).trans hg), (fun h => absurd (hs1 ▸ h) (by simp)), (fun h => absurd (hs1 ▸ h) (by simp)), (fun h => absurd (hs2 ▸ h) (by simp)), z1, (fun _ => em)⟩)
    · have hs2 : b8 = false := by cases hq : b8 with | false => rfl | true => have := (p3 hq).1; rw [e] at this; cases this
      have hw := p0 e hs2
      obtain ⟨rfl, h1⟩ := r1 e5
      exact put1 l1 l2 l3 l4 d1 y w _ hw h1 ⟨trivial, b1, b2, b3, b4, b5, b6, true, b8, l1, l2, l3, l4, _, y, d1, d2, f7, rfl, k1, k2, k3, k4, (fun _ => ⟨rfl, h1⟩), r2, (fun h => by cases h), (fun _ => ⟨e1, e2, e3, e4, e5, e6⟩), (fun _ _ => ⟨w, hw, rfl⟩), (fun h => absurd (hs2 ▸ h) (by simp)), z1, z2⟩
    · obtain ⟨u, hu, rfl⟩ := p2 e7 e
      have q := p1 e7
      obtain ⟨rfl, h1⟩ := r1 q.2.2.2.2.1
      obtain ⟨rfl, h2⟩ := r2 q.2.2.2.2.2
      exact put2 l1 l2 l3 l4 d1 d2 u _ hu h1 h2 ⟨trivial, b1, b2, b3, b4, b5, b6, b7, true, l1, l2, l3, l4, _, _, d1, d2, f8, rfl, k1, k2, k3, k4, (fun _ => ⟨rfl, h1⟩), (fun _ => ⟨rfl, h2⟩), (fun _ h => by cases h), (fun _ => q), (fun _ h => by cases h), (fun _ => ⟨e7, u, hu, rfl⟩), z1, z2⟩

def fa4 (a : Act) (d1 d2 d3 d4 d5 d6 : Nat) (l1 l2 l3 l4 x y : Value) : Act := (((((a.put (some d1) l1).put (some d2) l2).put (some d3) l3).put (some d4) l4).put (some d5) x).put (some d6) y
theorem fa4_self (a : Act) (d1 d2 d3 d4 d5 d6 : Nat) : a = fa4 a d1 d2 d3 d4 d5 d6 (a.tmps.getD d1 undef) (a.tmps.getD d2 undef) (a.tmps.getD d3 undef) (a.tmps.getD d4 undef) (a.tmps.getD d5 undef) (a.tmps.getD d6 undef) := by
  unfold fa4
  rw [put_self, put_self, put_self, put_self, put_self, put_self]
theorem a4_start (m1 m2 : Bool → Bool → Bool → Bool → Bool) (W : World) (a : Act) (d1 d2 d3 d4 d5 d6 : Nat) (F : Bool → Bool → Bool → Bool → Bool → Bool → Bool → Bool → Array Bool) (v1 v2 v3 v4 : Value) (R1 R2 : Array Value → Prop) (g1 g2 : Nat) (l : Array Bool) (w : World) (hl : l = F false false false false false false false false) (hg : Gr W w) :
    ∃ b1 b2 b3 b4 b5 b6 b7 b8 l1 l2 l3 l4 x y e1 e2, A4 m1 m2 W (fa4 a d1 d2 d3 d4 d5 d6) F v1 v2 v3 v4 R1 R2 g1 g2 b1 b2 b3 b4 b5 b6 b7 b8 l1 l2 l3 l4 x y e1 e2 l a w :=
  ⟨false, false, false, false, false, false, false, false, _, _, _, _, _, _, #[], #[], hl, fa4_self a d1 d2 d3 d4 d5 d6, (by intro h; cases h), (by intro h; cases h), (by intro h; cases h), (by intro h; cases h), (by intro h; cases h), (by intro h; cases h), (fun _ _ => hg), (by intro h; cases h), (by intro h; cases h), (by intro h; cases h), (by intro h; cases h), (by intro h; cases h)⟩
end Go.Proofs.Ytjncnmhigikdoaa
