/-
  A region that draws its order and in which 5 variables are made while calls go on: stage by stage.
-/
import Derived.Test.YtdekjbdkpchbjabAny
namespace Go.Proofs.Ytdekjbdkpchbjab
open Go.RowKit
set_option maxRecDepth 100000

/-- where 5 variables lie, as far as they are made -/
structure M5 (W : World) (z : Array Value) (t : TypeId) (A : Value → Value → Value → Value → Value → Act) (F : Bool → Bool → Bool → Bool → Bool → Array Bool) (b1 b2 b3 b4 b5 : Bool) (q1 q2 q3 q4 q5 : Value) (g1 g2 g3 g4 g5 : Nat) (l : Array Bool) (a : Act) (w : World) : Prop where
  hl : l = F b1 b2 b3 b4 b5
  ha : a = A q1 q2 q3 q4 q5
  gr : Gr W w
  x1 : b1 = true → New W z t w q1 g1
  x2 : b2 = true → New W z t w q2 g2
  x3 : b3 = true → New W z t w q3 g3
  x4 : b4 = true → New W z t w q4 g4
  x5 : b5 = true → New W z t w q5 g5
  ne12 : b1 = true → b2 = true → g1 ≠ g2
  ne13 : b1 = true → b3 = true → g1 ≠ g3
  ne14 : b1 = true → b4 = true → g1 ≠ g4
  ne15 : b1 = true → b5 = true → g1 ≠ g5
  ne23 : b2 = true → b3 = true → g2 ≠ g3
  ne24 : b2 = true → b4 = true → g2 ≠ g4
  ne25 : b2 = true → b5 = true → g2 ≠ g5
  ne34 : b3 = true → b4 = true → g3 ≠ g4
  ne35 : b3 = true → b5 = true → g3 ≠ g5
  ne45 : b4 = true → b5 = true → g4 ≠ g5
theorem M5.go {W : World} {z : Array Value} {t : TypeId} {A A' : Value → Value → Value → Value → Value → Act} {F F' : Bool → Bool → Bool → Bool → Bool → Array Bool} {b1 b2 b3 b4 b5 : Bool} {q1 q2 q3 q4 q5 : Value} {g1 g2 g3 g4 g5 : Nat} {l : Array Bool} {a : Act} {w w' : World} (h : M5 W z t A F b1 b2 b3 b4 b5 q1 q2 q3 q4 q5 g1 g2 g3 g4 g5 l a w) (k : Gr w w') :
    M5 W z t A' F' b1 b2 b3 b4 b5 q1 q2 q3 q4 q5 g1 g2 g3 g4 g5 (F' b1 b2 b3 b4 b5) (A' q1 q2 q3 q4 q5) w' := ⟨rfl, rfl, h.gr.trans k, fun e => (h.x1 e).more k, fun e => (h.x2 e).more k, fun e => (h.x3 e).more k, fun e => (h.x4 e).more k, fun e => (h.x5 e).more k, h.ne12, h.ne13, h.ne14, h.ne15, h.ne23, h.ne24, h.ne25, h.ne34, h.ne35, h.ne45⟩
theorem M5.start (W : World) (z : Array Value) (t : TypeId) (A : Value → Value → Value → Value → Value → Act) (F : Bool → Bool → Bool → Bool → Bool → Array Bool) : M5 W z t A F false false false false false undef undef undef undef undef 0 0 0 0 0 (F false false false false false) (A undef undef undef undef undef) W :=
  ⟨rfl, rfl, Gr.refl W, (fun e => by cases e), (fun e => by cases e), (fun e => by cases e), (fun e => by cases e), (fun e => by cases e), (fun e => by cases e), (fun e => by cases e), (fun e => by cases e), (fun e => by cases e), (fun e => by cases e), (fun e => by cases e), (fun e => by cases e), (fun e => by cases e), (fun e => by cases e), (fun e => by cases e)⟩
/-- all are made -/
theorem M5.all {W : World} {z : Array Value} {t : TypeId} {A : Value → Value → Value → Value → Value → Act} {F : Bool → Bool → Bool → Bool → Bool → Array Bool} {q1 q2 q3 q4 q5 : Value} {g1 g2 g3 g4 g5 : Nat} {l : Array Bool} {a : Act} {w W0 : World} {L : List Blk} (h : M5 W z t A F true true true true true q1 q2 q3 q4 q5 g1 g2 g3 g4 g5 l a w) (hB : Bl W0 L W) :
    q1 = .pointer (some ⟨g1, 0, none⟩) ∧ q2 = .pointer (some ⟨g2, 0, none⟩) ∧ q3 = .pointer (some ⟨g3, 0, none⟩) ∧ q4 = .pointer (some ⟨g4, 0, none⟩) ∧ q5 = .pointer (some ⟨g5, 0, none⟩) ∧ Bl W0 (L ++ [⟨g1, z, t⟩, ⟨g2, z, t⟩, ⟨g3, z, t⟩, ⟨g4, z, t⟩, ⟨g5, z, t⟩]) w := by
  refine ⟨(h.x1 rfl).1, (h.x2 rfl).1, (h.x3 rfl).1, (h.x4 rfl).1, (h.x5 rfl).1, hB.join h.gr _ ?_ ?_⟩
  · intro x hx
    simp only [List.mem_cons, List.not_mem_nil, or_false] at hx
    rcases hx with rfl | rfl | rfl | rfl | rfl
    · exact ⟨(h.x1 rfl).2.2, (h.x1 rfl).2.1⟩
    · exact ⟨(h.x2 rfl).2.2, (h.x2 rfl).2.1⟩
    · exact ⟨(h.x3 rfl).2.2, (h.x3 rfl).2.1⟩
    · exact ⟨(h.x4 rfl).2.2, (h.x4 rfl).2.1⟩
    · exact ⟨(h.x5 rfl).2.2, (h.x5 rfl).2.1⟩
  · simp only [List.pairwise_cons, List.mem_cons, List.not_mem_nil, or_false, forall_eq_or_imp, forall_eq, List.Pairwise.nil, and_true, false_implies, implies_true]
    exact ⟨⟨h.ne12 rfl rfl, h.ne13 rfl rfl, h.ne14 rfl rfl, h.ne15 rfl rfl⟩, ⟨h.ne23 rfl rfl, h.ne24 rfl rfl, h.ne25 rfl rfl⟩, ⟨h.ne34 rfl rfl, h.ne35 rfl rfl⟩, h.ne45 rfl rfl⟩

def chkM5 (md : Region.Mode) (ops : Array Oper) (F : Bool → Bool → Bool → Bool → Bool → Array Bool) (i1 i2 i3 i4 i5 c : Nat) (all : Bool) : Bool :=
  [false, true].all fun b1 => [false, true].all fun b2 => [false, true].all fun b3 => [false, true].all fun b4 => [false, true].all fun b5 =>
    !(Region.ready md ops (F b1 b2 b3 b4 b5)).isEmpty && (Region.ready md ops (F b1 b2 b3 b4 b5)).all fun i => (i == i1 && !b1) || (i == i2 && !b2) || (i == i3 && !b3) || (i == i4 && !b4) || (i == i5 && !b5) || (i == c && (!all || (b1 && b2 && b3 && b4 && b5)))
theorem chkM5_spec {md : Region.Mode} {ops : Array Oper} {F : Bool → Bool → Bool → Bool → Bool → Array Bool} {i1 i2 i3 i4 i5 c : Nat} {all : Bool} (h : chkM5 md ops F i1 i2 i3 i4 i5 c all = true) :
    ∀ b1 b2 b3 b4 b5, Region.ready md ops (F b1 b2 b3 b4 b5) ≠ [] ∧ ∀ i ∈ Region.ready md ops (F b1 b2 b3 b4 b5), (i = i1 ∧ b1 = false) ∨ (i = i2 ∧ b2 = false) ∨ (i = i3 ∧ b3 = false) ∨ (i = i4 ∧ b4 = false) ∨ (i = i5 ∧ b5 = false) ∨ (i = c ∧ (all = true → b1 = true ∧ b2 = true ∧ b3 = true ∧ b4 = true ∧ b5 = true)) := by
  have mb : ∀ b : Bool, b ∈ [false, true] := by intro b; cases b <;> simp
  intro b1 b2 b3 b4 b5
  have h1 := (List.all_eq_true.1 (List.all_eq_true.1 (List.all_eq_true.1 (List.all_eq_true.1 (List.all_eq_true.1 h b1 (mb b1)) b2 (mb b2)) b3 (mb b3)) b4 (mb b4)) b5 (mb b5))
  rw [Bool.and_eq_true] at h1
  refine ⟨fun e => ?_, fun i hi => ?_⟩
  · rw [e] at h1
    exact absurd h1.1 (by decide)
  · have h2 := List.all_eq_true.1 h1.2 i hi
    rw [Bool.or_eq_true] at h2
    rcases h2 with h2 | h2
    · simp only [Bool.or_eq_true, Bool.and_eq_true, beq_iff_eq, Bool.not_eq_true', or_assoc] at h2
      rcases h2 with h2 | h2 | h2 | h2 | h2
      · exact .inl h2
      · exact .inr (.inl h2)
      · exact .inr (.inr (.inl h2))
      · exact .inr (.inr (.inr (.inl h2)))
      · exact .inr (.inr (.inr (.inr (.inl h2))))
    · rw [Bool.and_eq_true, beq_iff_eq] at h2
      obtain ⟨rfl, h3⟩ := h2
      refine .inr (.inr (.inr (.inr (.inr ⟨rfl, fun ha => ?_⟩))))
      rw [ha] at h3
      simpa [and_assoc] using h3

/-- one stage: the variables are made, or the operation c is carried out -/
theorem stage5 {P : Program} {md : Region.Mode} {ops : Array Oper} {Q : Exit → Act → World → Prop} {S : World → Prop} (W : World) (z : Array Value) (t : TypeId) (A : Value → Value → Value → Value → Value → Act) (F : Bool → Bool → Bool → Bool → Bool → Array Bool) (i1 i2 i3 i4 i5 c : Nat) (all : Bool)
    (hS : ∀ v, Gr W v → S v) (hchk : chkM5 md ops F i1 i2 i3 i4 i5 c all = true)
    (hF : ∀ b1 b2 b3 b4 b5, (F b1 b2 b3 b4 b5).setIfInBounds i1 true = F true b2 b3 b4 b5 ∧ (F b1 b2 b3 b4 b5).setIfInBounds i2 true = F b1 true b3 b4 b5 ∧ (F b1 b2 b3 b4 b5).setIfInBounds i3 true = F b1 b2 true b4 b5 ∧ (F b1 b2 b3 b4 b5).setIfInBounds i4 true = F b1 b2 b3 true b5 ∧ (F b1 b2 b3 b4 b5).setIfInBounds i5 true = F b1 b2 b3 b4 true)
    (new1 : ∀ q1 q2 q3 q4 q5 w (K : Act → World → Prop), K (A (.pointer (some ⟨w.heap.size, 0, none⟩)) q2 q3 q4 q5) (w.alloc (.cells z t (0, 0))) → wpOp P ops Q i1 K (A q1 q2 q3 q4 q5) w)
    (new2 : ∀ q1 q2 q3 q4 q5 w (K : Act → World → Prop), K (A q1 (.pointer (some ⟨w.heap.size, 0, none⟩)) q3 q4 q5) (w.alloc (.cells z t (0, 0))) → wpOp P ops Q i2 K (A q1 q2 q3 q4 q5) w)
    (new3 : ∀ q1 q2 q3 q4 q5 w (K : Act → World → Prop), K (A q1 q2 (.pointer (some ⟨w.heap.size, 0, none⟩)) q4 q5) (w.alloc (.cells z t (0, 0))) → wpOp P ops Q i3 K (A q1 q2 q3 q4 q5) w)
    (new4 : ∀ q1 q2 q3 q4 q5 w (K : Act → World → Prop), K (A q1 q2 q3 (.pointer (some ⟨w.heap.size, 0, none⟩)) q5) (w.alloc (.cells z t (0, 0))) → wpOp P ops Q i4 K (A q1 q2 q3 q4 q5) w)
    (new5 : ∀ q1 q2 q3 q4 q5 w (K : Act → World → Prop), K (A q1 q2 q3 q4 (.pointer (some ⟨w.heap.size, 0, none⟩))) (w.alloc (.cells z t (0, 0))) → wpOp P ops Q i5 K (A q1 q2 q3 q4 q5) w)
    (next : ∀ b1 b2 b3 b4 b5 q1 q2 q3 q4 q5 g1 g2 g3 g4 g5 w, M5 W z t A F b1 b2 b3 b4 b5 q1 q2 q3 q4 q5 g1 g2 g3 g4 g5 (F b1 b2 b3 b4 b5) (A q1 q2 q3 q4 q5) w → (all = true → b1 = true ∧ b2 = true ∧ b3 = true ∧ b4 = true ∧ b5 = true) → wpOp P ops Q c (fun a' w' => S w' ∧ Any P md ops Q S ((F b1 b2 b3 b4 b5).setIfInBounds c true) a' w') (A q1 q2 q3 q4 q5) w)
    {l : Array Bool} {a : Act} {w : World} (h : ∃ b1 b2 b3 b4 b5 q1 q2 q3 q4 q5 g1 g2 g3 g4 g5, M5 W z t A F b1 b2 b3 b4 b5 q1 q2 q3 q4 q5 g1 g2 g3 g4 g5 l a w) : Any P md ops Q S l a w := by
  refine any_stage (fun l a w => ∃ b1 b2 b3 b4 b5 q1 q2 q3 q4 q5 g1 g2 g3 g4 g5, M5 W z t A F b1 b2 b3 b4 b5 q1 q2 q3 q4 q5 g1 g2 g3 g4 g5 l a w) ?_ h
  rintro l a w ⟨b1, b2, b3, b4, b5, q1, q2, q3, q4, q5, g1, g2, g3, g4, g5, hM⟩
  obtain ⟨hl, ha, gr, x1, x2, x3, x4, x5, ne12, ne13, ne14, ne15, ne23, ne24, ne25, ne34, ne35, ne45⟩ := hM
  subst hl ha
  obtain ⟨hne, hr⟩ := chkM5_spec hchk b1 b2 b3 b4 b5
  obtain ⟨f1, f2, f3, f4, f5⟩ := hF b1 b2 b3 b4 b5
  refine ⟨hne, fun i hi => ?_⟩
  rcases hr i hi with ⟨rfl, e⟩ | ⟨rfl, e⟩ | ⟨rfl, e⟩ | ⟨rfl, e⟩ | ⟨rfl, e⟩ | ⟨rfl, e⟩
  · have hg := (Gr.refl w).alloc (.cells z t (0, 0))
    exact new1 q1 q2 q3 q4 q5 w _ ⟨hS _ (gr.trans hg), .inl ⟨true, b2, b3, b4, b5, _, q2, q3, q4, q5, w.heap.size, g2, g3, g4, g5, ⟨f1, rfl, gr.trans hg, fun _ => ⟨rfl, gr.size, blk_new _ _⟩, fun e => (x2 e).more hg, fun e => (x3 e).more hg, fun e => (x4 e).more hg, fun e => (x5 e).more hg, fun _ e => Nat.ne_of_gt (x2 e).lt, fun _ e => Nat.ne_of_gt (x3 e).lt, fun _ e => Nat.ne_of_gt (x4 e).lt, fun _ e => Nat.ne_of_gt (x5 e).lt, ne23, ne24, ne25, ne34, ne35, ne45⟩⟩⟩
  · have hg := (Gr.refl w).alloc (.cells z t (0, 0))
    exact new2 q1 q2 q3 q4 q5 w _ ⟨hS _ (gr.trans hg), .inl ⟨b1, true, b3, b4, b5, q1, _, q3, q4, q5, g1, w.heap.size, g3, g4, g5, ⟨f2, rfl, gr.trans hg, fun e => (x1 e).more hg, fun _ => ⟨rfl, gr.size, blk_new _ _⟩, fun e => (x3 e).more hg, fun e => (x4 e).more hg, fun e => (x5 e).more hg, fun e _ => Nat.ne_of_lt (x1 e).lt, ne13, ne14, ne15, fun _ e => Nat.ne_of_gt (x3 e).lt, fun _ e => Nat.ne_of_gt (x4 e).lt, fun _ e => Nat.ne_of_gt (x5 e).lt, ne34, ne35, ne45⟩⟩⟩
  · have hg := (Gr.refl w).alloc (.cells z t (0, 0))
    exact new3 q1 q2 q3 q4 q5 w _ ⟨hS _ (gr.trans hg), .inl ⟨b1, b2, true, b4, b5, q1, q2, _, q4, q5, g1, g2, w.heap.size, g4, g5, ⟨f3, rfl, gr.trans hg, fun e => (x1 e).more hg, fun e => (x2 e).more hg, fun _ => ⟨rfl, gr.size, blk_new _ _⟩, fun e => (x4 e).more hg, fun e => (x5 e).more hg, ne12, fun e _ => Nat.ne_of_lt (x1 e).lt, ne14, ne15, fun e _ => Nat.ne_of_lt (x2 e).lt, ne24, ne25, fun _ e => Nat.ne_of_gt (x4 e).lt, fun _ e => Nat.ne_of_gt (x5 e).lt, ne45⟩⟩⟩
  · have hg := (Gr.refl w).alloc (.cells z t (0, 0))
    exact new4 q1 q2 q3 q4 q5 w _ ⟨hS _ (gr.trans hg), .inl ⟨b1, b2, b3, true, b5, q1, q2, q3, _, q5, g1, g2, g3, w.heap.size, g5, ⟨f4, rfl, gr.trans hg, fun e => (x1 e).more hg, fun e => (x2 e).more hg, fun e => (x3 e).more hg, fun _ => ⟨rfl, gr.size, blk_new _ _⟩, fun e => (x5 e).more hg, ne12, ne13, fun e _ => Nat.ne_of_lt (x1 e).lt, ne15, ne23, fun e _ => Nat.ne_of_lt (x2 e).lt, ne25, fun e _ => Nat.ne_of_lt (x3 e).lt, ne35, fun _ e => Nat.ne_of_gt (x5 e).lt⟩⟩⟩
  · have hg := (Gr.refl w).alloc (.cells z t (0, 0))
    exact new5 q1 q2 q3 q4 q5 w _ ⟨hS _ (gr.trans hg), .inl ⟨b1, b2, b3, b4, true, q1, q2, q3, q4, _, g1, g2, g3, g4, w.heap.size, ⟨f5, rfl, gr.trans hg, fun e => (x1 e).more hg, fun e => (x2 e).more hg, fun e => (x3 e).more hg, fun e => (x4 e).more hg, fun _ => ⟨rfl, gr.size, blk_new _ _⟩, ne12, ne13, ne14, fun e _ => Nat.ne_of_lt (x1 e).lt, ne23, ne24, fun e _ => Nat.ne_of_lt (x2 e).lt, ne34, fun e _ => Nat.ne_of_lt (x3 e).lt, fun e _ => Nat.ne_of_lt (x4 e).lt⟩⟩⟩
  · refine wpOp_mono (fun a' w' k => ⟨k.1, .inr k.2⟩) (next b1 b2 b3 b4 b5 q1 q2 q3 q4 q5 g1 g2 g3 g4 g5 w ⟨rfl, rfl, gr, x1, x2, x3, x4, x5, ne12, ne13, ne14, ne15, ne23, ne24, ne25, ne34, ne35, ne45⟩ e)
end Go.Proofs.Ytdekjbdkpchbjab
