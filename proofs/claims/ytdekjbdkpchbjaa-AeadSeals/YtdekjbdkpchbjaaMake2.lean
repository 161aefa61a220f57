/-
  A region that draws its order and in which 2 variables are made while calls go on: stage by stage.
-/
import Derived.Test.YtdekjbdkpchbjaaAny
namespace Go.Proofs.Ytdekjbdkpchbjaa
open Go.RowKit
set_option maxRecDepth 100000

/-- where 2 variables lie, as far as they are made -/
structure M2 (W : World) (z : Array Value) (t : TypeId) (A : Value → Value → Act) (F : Bool → Bool → Array Bool) (b1 b2 : Bool) (q1 q2 : Value) (g1 g2 : Nat) (l : Array Bool) (a : Act) (w : World) : Prop where
  hl : l = F b1 b2
  ha : a = A q1 q2
  gr : Gr W w
  x1 : b1 = true → New W z t w q1 g1
  x2 : b2 = true → New W z t w q2 g2
  ne12 : b1 = true → b2 = true → g1 ≠ g2
theorem M2.go {W : World} {z : Array Value} {t : TypeId} {A A' : Value → Value → Act} {F F' : Bool → Bool → Array Bool} {b1 b2 : Bool} {q1 q2 : Value} {g1 g2 : Nat} {l : Array Bool} {a : Act} {w w' : World} (h : M2 W z t A F b1 b2 q1 q2 g1 g2 l a w) (k : Gr w w') :
    M2 W z t A' F' b1 b2 q1 q2 g1 g2 (F' b1 b2) (A' q1 q2) w' := ⟨rfl, rfl, h.gr.trans k, fun e => (h.x1 e).more k, fun e => (h.x2 e).more k, h.ne12⟩
theorem M2.start (W : World) (z : Array Value) (t : TypeId) (A : Value → Value → Act) (F : Bool → Bool → Array Bool) : M2 W z t A F false false undef undef 0 0 (F false false) (A undef undef) W :=
  ⟨rfl, rfl, Gr.refl W, (fun e => by cases e), (fun e => by cases e), (fun e => by cases e)⟩
/-- all are made -/
theorem M2.all {W : World} {z : Array Value} {t : TypeId} {A : Value → Value → Act} {F : Bool → Bool → Array Bool} {q1 q2 : Value} {g1 g2 : Nat} {l : Array Bool} {a : Act} {w W0 : World} {L : List Blk} (h : M2 W z t A F true true q1 q2 g1 g2 l a w) (hB : Bl W0 L W) :
    q1 = .pointer (some ⟨g1, 0, none⟩) ∧ q2 = .pointer (some ⟨g2, 0, none⟩) ∧ Bl W0 (L ++ [⟨g1, z, t⟩, ⟨g2, z, t⟩]) w := by
  refine ⟨(h.x1 rfl).1, (h.x2 rfl).1, hB.join h.gr _ ?_ ?_⟩
  · intro x hx
    simp only [List.mem_cons, List.not_mem_nil, or_false] at hx
    rcases hx with rfl | rfl
    · exact ⟨(h.x1 rfl).2.2, (h.x1 rfl).2.1⟩
    · exact ⟨(h.x2 rfl).2.2, (h.x2 rfl).2.1⟩
  · simp only [List.pairwise_cons, List.mem_cons, List.not_mem_nil, or_false, forall_eq, List.Pairwise.nil, and_true, false_implies, implies_true]
    exact h.ne12 rfl rfl

def chkM2 (md : Region.Mode) (ops : Array Oper) (F : Bool → Bool → Array Bool) (i1 i2 c : Nat) (all : Bool) : Bool :=
  [false, true].all fun b1 => [false, true].all fun b2 =>
    !(Region.ready md ops (F b1 b2)).isEmpty && (Region.ready md ops (F b1 b2)).all fun i => (i == i1 && !b1) || (i == i2 && !b2) || (i == c && (!all || (b1 && b2)))
theorem chkM2_spec {md : Region.Mode} {ops : Array Oper} {F : Bool → Bool → Array Bool} {i1 i2 c : Nat} {all : Bool} (h : chkM2 md ops F i1 i2 c all = true) :
    ∀ b1 b2, Region.ready md ops (F b1 b2) ≠ [] ∧ ∀ i ∈ Region.ready md ops (F b1 b2), (i = i1 ∧ b1 = false) ∨ (i = i2 ∧ b2 = false) ∨ (i = c ∧ (all = true → b1 = true ∧ b2 = true)) := by
  have mb : ∀ b : Bool, b ∈ [false, true] := by intro b; cases b <;> simp
  intro b1 b2
  have h1 := (List.all_eq_true.1 (List.all_eq_true.1 h b1 (mb b1)) b2 (mb b2))
  rw [Bool.and_eq_true] at h1
  refine ⟨fun e => ?_, fun i hi => ?_⟩
  · rw [e] at h1
    exact absurd h1.1 (by decide)
  · have h2 := List.all_eq_true.1 h1.2 i hi
    rw [Bool.or_eq_true] at h2
    rcases h2 with h2 | h2
    · simp only [Bool.or_eq_true, Bool.and_eq_true, beq_iff_eq, Bool.not_eq_true'] at h2
      exact h2.elim .inl (fun h => .inr (.inl h))
    · rw [Bool.and_eq_true, beq_iff_eq] at h2
      obtain ⟨rfl, h3⟩ := h2
      refine .inr (.inr ⟨rfl, fun ha => ?_⟩)
      rw [ha] at h3
      simpa using h3

/-- one stage: the variables are made, or the operation c is carried out -/
theorem stage2 {P : Program} {md : Region.Mode} {ops : Array Oper} {Q : Exit → Act → World → Prop} {S : World → Prop} (W : World) (z : Array Value) (t : TypeId) (A : Value → Value → Act) (F : Bool → Bool → Array Bool) (i1 i2 c : Nat) (all : Bool)
    (hS : ∀ v, Gr W v → S v) (hchk : chkM2 md ops F i1 i2 c all = true)
    (hF : ∀ b1 b2, (F b1 b2).setIfInBounds i1 true = F true b2 ∧ (F b1 b2).setIfInBounds i2 true = F b1 true)
    (new1 : ∀ q1 q2 w (K : Act → World → Prop), K (A (.pointer (some ⟨w.heap.size, 0, none⟩)) q2) (w.alloc (.cells z t (0, 0))) → wpOp P ops Q i1 K (A q1 q2) w)
    (new2 : ∀ q1 q2 w (K : Act → World → Prop), K (A q1 (.pointer (some ⟨w.heap.size, 0, none⟩))) (w.alloc (.cells z t (0, 0))) → wpOp P ops Q i2 K (A q1 q2) w)
    (next : ∀ b1 b2 q1 q2 g1 g2 w, M2 W z t A F b1 b2 q1 q2 g1 g2 (F b1 b2) (A q1 q2) w → (all = true → b1 = true ∧ b2 = true) → wpOp P ops Q c (fun a' w' => S w' ∧ Any P md ops Q S ((F b1 b2).setIfInBounds c true) a' w') (A q1 q2) w)
    {l : Array Bool} {a : Act} {w : World} (h : ∃ b1 b2 q1 q2 g1 g2, M2 W z t A F b1 b2 q1 q2 g1 g2 l a w) : Any P md ops Q S l a w := by
  refine any_stage (fun l a w => ∃ b1 b2 q1 q2 g1 g2, M2 W z t A F b1 b2 q1 q2 g1 g2 l a w) ?_ h
  rintro l a w ⟨b1, b2, q1, q2, g1, g2, hM⟩
  obtain ⟨hl, ha, gr, x1, x2, ne12⟩ := hM
  subst hl ha
  obtain ⟨hne, hr⟩ := chkM2_spec hchk b1 b2
  obtain ⟨f1, f2⟩ := hF b1 b2
  refine ⟨hne, fun i hi => ?_⟩
  rcases hr i hi with ⟨rfl, e⟩ | ⟨rfl, e⟩ | ⟨rfl, e⟩
  · have hg := (Gr.refl w).alloc (.cells z t (0, 0))
    exact new1 q1 q2 w _ ⟨hS _ (gr.trans hg), .inl ⟨true, b2, _, q2, w.heap.size, g2, ⟨f1, rfl, gr.trans hg, fun _ => ⟨rfl, gr.size, blk_new _ _⟩, fun e => (x2 e).more hg, fun _ e => Nat.ne_of_gt (x2 e).lt⟩⟩⟩
  · have hg := (Gr.refl w).alloc (.cells z t (0, 0))
    exact new2 q1 q2 w _ ⟨hS _ (gr.trans hg), .inl ⟨b1, true, q1, _, g1, w.heap.size, ⟨f2, rfl, gr.trans hg, fun e => (x1 e).more hg, fun _ => ⟨rfl, gr.size, blk_new _ _⟩, fun e _ => Nat.ne_of_lt (x1 e).lt⟩⟩⟩
  · refine wpOp_mono (fun a' w' k => ⟨k.1, .inr k.2⟩) (next b1 b2 q1 q2 g1 g2 w ⟨rfl, rfl, gr, x1, x2, ne12⟩ e)
end Go.Proofs.Ytdekjbdkpchbjaa
