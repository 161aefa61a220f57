/-
  A region that draws its order and in which 1 variables are made while calls go on: stage by stage. A region that draws its order and in which 2 variables are made while calls go on: stage by stage. A region that draws its order and in which 4 variables are made while calls go on: stage by stage. A region that draws its order and in which 5 variables are made while calls go on: stage by stage. Variables that are made while a region's calls go on: the frame told by the variables' places.
-/
import Derived.Test.YtcefkkoombmndaaAny
namespace Go.Proofs.Ytcefkkoombmndaa
open Go.RowKit
set_option maxRecDepth 100000
set_option linter.unusedSimpArgs false
set_option linter.unusedVariables false

/-- where 1 variables lie, as far as they are made -/
structure M1 (W : World) (z : Array Value) (t : TypeId) (A : Value → Act) (F : Bool → Array Bool) (b1 : Bool) (q1 : Value) (g1 : Nat) (l : Array Bool) (a : Act) (w : World) : Prop where
  hl : l = F b1
  ha : a = A q1
  gr : Gr W w
  x1 : b1 = true → New W z t w q1 g1
theorem M1.go {W : World} {z : Array Value} {t : TypeId} {A A' : Value → Act} {F F' : Bool → Array Bool} {b1 : Bool} {q1 : Value} {g1 : Nat} {l : Array Bool} {a : Act} {w w' : World} (h : M1 W z t A F b1 q1 g1 l a w) (k : Gr w w') :
    M1 W z t A' F' b1 q1 g1 (F' b1) (A' q1) w' := ⟨rfl, rfl, h.gr.trans k, fun e => (h.x1 e).more k⟩
theorem M1.start (W : World) (z : Array Value) (t : TypeId) (A : Value → Act) (F : Bool → Array Bool) : M1 W z t A F false undef 0 (F false) (A undef) W :=
  ⟨rfl, rfl, Gr.refl W, (fun e => by cases e)⟩
/-- all are made -/
theorem M1.all {W : World} {z : Array Value} {t : TypeId} {A : Value → Act} {F : Bool → Array Bool} {q1 : Value} {g1 : Nat} {l : Array Bool} {a : Act} {w W0 : World} {L : List Blk} (h : M1 W z t A F true q1 g1 l a w) (hB : Bl W0 L W) :
    q1 = .pointer (some ⟨g1, 0, none⟩) ∧ Bl W0 (L ++ [⟨g1, z, t⟩]) w := by
  refine ⟨(h.x1 rfl).1, hB.join h.gr _ ?_ ?_⟩
  · intro x hx
    simp only [List.mem_cons, List.not_mem_nil, or_false] at hx
    subst hx
    · exact ⟨(h.x1 rfl).2.2, (h.x1 rfl).2.1⟩
  · exact List.pairwise_singleton _ _

def chkM1 (md : Region.Mode) (ops : Array Oper) (F : Bool → Array Bool) (i1 c : Nat) (all : Bool) : Bool :=
  [false, true].all fun b1 =>
    !(Region.ready md ops (F b1)).isEmpty && (Region.ready md ops (F b1)).all fun i => (i == i1 && !b1) || (i == c && (!all || (b1)))
theorem chkM1_spec {md : Region.Mode} {ops : Array Oper} {F : Bool → Array Bool} {i1 c : Nat} {all : Bool} (h : chkM1 md ops F i1 c all = true) :
    ∀ b1, Region.ready md ops (F b1) ≠ [] ∧ ∀ i ∈ Region.ready md ops (F b1), (i = i1 ∧ b1 = false) ∨ (i = c ∧ (all = true → b1 = true)) := by
  have mb : ∀ b : Bool, b ∈ [false, true] := by intro b; cases b <;> simp
  intro b1
  have h1 := (List.all_eq_true.1 h b1 (mb b1))
  rw [Bool.and_eq_true] at h1
  refine ⟨fun e => ?_, fun i hi => ?_⟩
  · rw [e] at h1
    exact absurd h1.1 (by decide)
  · have h2 := List.all_eq_true.1 h1.2 i hi
    rw [Bool.or_eq_true] at h2
    rcases h2 with h2 | h2
    · simp only [Bool.and_eq_true, beq_iff_eq, Bool.not_eq_true'] at h2
      exact .inl h2
    · rw [Bool.and_eq_true, beq_iff_eq] at h2
      obtain ⟨rfl, h3⟩ := h2
      refine .inr ⟨rfl, fun ha => ?_⟩
      rw [ha] at h3
      simpa using h3

/-- one stage: the variables are made, or the operation c is carried out -/
theorem stage1 {P : Program} {md : Region.Mode} {ops : Array Oper} {Q : Exit → Act → World → Prop} {S : World → Prop} (W : World) (z : Array Value) (t : TypeId) (A : Value → Act) (F : Bool → Array Bool) (i1 c : Nat) (all : Bool)
    (hS : ∀ v, Gr W v → S v) (hchk : chkM1 md ops F i1 c all = true)
    (hF : ∀ b1, (F b1).setIfInBounds i1 true = F true)
    (new1 : ∀ q1 w (K : Act → World → Prop), K (A (.pointer (some ⟨w.heap.size, 0, none⟩))) (w.alloc (.cells z t (0, 0))) → wpOp P ops Q i1 K (A q1) w)
    (next : ∀ b1 q1 g1 w, M1 W z t A F b1 q1 g1 (F b1) (A q1) w → (all = true → b1 = true) → wpOp P ops Q c (fun a' w' => S w' ∧ Any P md ops Q S ((F b1).setIfInBounds c true) a' w') (A q1) w)
    {l : Array Bool} {a : Act} {w : World} (h : ∃ b1 q1 g1, M1 W z t A F b1 q1 g1 l a w) : Any P md ops Q S l a w := by
  refine any_stage (fun l a w => ∃ b1 q1 g1, M1 W z t A F b1 q1 g1 l a w) ?_ h
  rintro l a w ⟨b1, q1, g1, hM⟩
  obtain ⟨hl, ha, gr, x1⟩ := hM
  subst hl ha
  obtain ⟨hne, hr⟩ := chkM1_spec hchk b1
  have f1 := hF b1
  refine ⟨hne, fun i hi => ?_⟩
  rcases hr i hi with ⟨rfl, e⟩ | ⟨rfl, e⟩
  · have hg := (Gr.refl w).alloc (.cells z t (0, 0))
    exact new1 q1 w _ ⟨hS _ (gr.trans hg), .inl ⟨true, _, w.heap.size, ⟨f1, rfl, gr.trans hg, fun _ => ⟨rfl, gr.size, blk_new _ _⟩⟩⟩⟩
  · refine wpOp_mono (fun a' w' k => ⟨k.1, .inr k.2⟩) (next b1 q1 g1 w ⟨rfl, rfl, gr, x1⟩ e)


/-- where 2 variables lie, as far as they are made -/
structure M2 (W : World) (z : Array Value) (t : TypeId) (A : Value → Value → Act) (F : Bool → Bool → Array Bool) (b1 b2 : Bool) (q1 q2 : Value) (g1 g2 : Nat) (l : Array Bool) (a : Act) (w : World) : Prop where
  hl : l = F b1 b2
  ha : a = A q1 q2
  gr : Gr W w
  x1 : b1 = true → New W z t w q1 g1
  x2 : b2 = true → New W z t w q2 g2
  ne12 : b1 = true → b2 = true → g1 ≠ g2
theorem M2.go {W : World} {z : Array Value} {t : TypeId} {A A' : Value → Value → Act} {F F' : Bool → Bool → Array Bool} {b1 b2 : Bool} {q1 q2 : Value} {g1 g2 : Nat} {l : Array Bool} {a : Act} {w w' : World} (h : M2 W z t A F b1 b2 q1 q2 g1 g2 l a w) (k : Gr w w') :
    M2 W z t A' F' b1 b2 q1 q2 g1 g2 (F' b1 b2) (A' q1 q2) w' := ⟨rfl, rfl, h.gr.trans k, fun e => (h.x1 e).more k, fun e => (h.x2 e).more k, h.ne12⟩
theorem M2.start (W : World) (z : Array Value) (t : TypeId) (A : Value → Value → Act) (F : Bool → Bool → Array Bool) : M2 W z t A F false false undef undef 0 0 (F false false) (A undef undef) W :=
  ⟨rfl, rfl, Gr.refl W, (fun e => by cases e), (fun e => by cases e), (fun e => by cases e)⟩
/-- all are made -/
theorem M2.all {W : World} {z : Array Value} {t : TypeId} {A : Value → Value → Act} {F : Bool → Bool → Array Bool} {q1 q2 : Value} {g1 g2 : Nat} {l : Array Bool} {a : Act} {w W0 : World} {L : List Blk} (h : M2 W z t A F true true q1 q2 g1 g2 l a w) (hB : Bl W0 L W) :
    q1 = .pointer (some ⟨g1, 0, none⟩) ∧ q2 = .pointer (some ⟨g2, 0, none⟩) ∧ Bl W0 (L ++ [⟨g1, z, t⟩, ⟨g2, z, t⟩]) w := by
  refine ⟨(h.x1 rfl).1, (h.x2 rfl).1, hB.join h.gr _ ?_ ?_⟩
  · intro x hx
    simp only [List.mem_cons, List.not_mem_nil, or_false] at hx
    rcases hx with rfl | rfl
    · exact ⟨(h.x1 rfl).2.2, (h.x1 rfl).2.1⟩
    · exact ⟨(h.x2 rfl).2.2, (h.x2 rfl).2.1⟩
  · simp only [List.pairwise_cons, List.mem_cons, List.not_mem_nil, or_false, forall_eq, List.Pairwise.nil, and_true, false_implies, implies_true]
    exact h.ne12 rfl rfl

def chkM2 (md : Region.Mode) (ops : Array Oper) (F : Bool → Bool → Array Bool) (i1 i2 c : Nat) (all : Bool) : Bool :=
  [false, true].all fun b1 => [false, true].all fun b2 =>
    !(Region.ready md ops (F b1 b2)).isEmpty && (Region.ready md ops (F b1 b2)).all fun i => (i == i1 && !b1) || (i == i2 && !b2) || (i == c && (!all || (b1 && b2)))
theorem chkM2_spec {md : Region.Mode} {ops : Array Oper} {F : Bool → Bool → Array Bool} {i1 i2 c : Nat} {all : Bool} (h : chkM2 md ops F i1 i2 c all = true) :
    ∀ b1 b2, Region.ready md ops (F b1 b2) ≠ [] ∧ ∀ i ∈ Region.ready md ops (F b1 b2), (i = i1 ∧ b1 = false) ∨ (i = i2 ∧ b2 = false) ∨ (i = c ∧ (all = true → b1 = true ∧ b2 = true)) := by
  have mb : ∀ b : Bool, b ∈ [false, true] := by intro b; cases b <;> simp
  intro b1 b2
  have h1 := (List.all_eq_true.1 (List.all_eq_true.1 h b1 (mb b1)) b2 (mb b2))
  rw [Bool.and_eq_true] at h1
  refine ⟨fun e => ?_, fun i hi => ?_⟩
  · rw [e] at h1
    exact absurd h1.1 (by decide)
  · have h2 := List.all_eq_true.1 h1.2 i hi
    rw [Bool.or_eq_true] at h2
    rcases h2 with h2 | h2
    · simp only [Bool.or_eq_true, Bool.and_eq_true, beq_iff_eq, Bool.not_eq_true'] at h2
      exact h2.elim .inl (fun h => .inr (.inl h))
    · rw [Bool.and_eq_true, beq_iff_eq] at h2
      obtain ⟨rfl, h3⟩ := h2
      refine .inr (.inr ⟨rfl, fun ha => ?_⟩)
      rw [ha] at h3
      simpa using h3

/-- one stage: the variables are made, or the operation c is carried out -/
theorem stage2 {P : Program} {md : Region.Mode} {ops : Array Oper} {Q : Exit → Act → World → Prop} {S : World → Prop} (W : World) (z : Array Value) (t : TypeId) (A : Value → Value → Act) (F : Bool → Bool → Array Bool) (i1 i2 c : Nat) (all : Bool)
    (hS : ∀ v, Gr W v → S v) (hchk : chkM2 md ops F i1 i2 c all = true)
    (hF : ∀ b1 b2, (F b1 b2).setIfInBounds i1 true = F true b2 ∧ (F b1 b2).setIfInBounds i2 true = F b1 true)
    (new1 : ∀ q1 q2 w (K : Act → World → Prop), K (A (.pointer (some ⟨w.heap.size, 0, none⟩)) q2) (w.alloc (.cells z t (0, 0))) → wpOp P ops Q i1 K (A q1 q2) w)
    (new2 : ∀ q1 q2 w (K : Act → World → Prop), K (A q1 (.pointer (some ⟨w.heap.size, 0, none⟩))) (w.alloc (.cells z t (0, 0))) → wpOp P ops Q i2 K (A q1 q2) w)
    (next : ∀ b1 b2 q1 q2 g1 g2 w, M2 W z t A F b1 b2 q1 q2 g1 g2 (F b1 b2) (A q1 q2) w → (all = true → b1 = true ∧ b2 = true) → wpOp P ops Q c (fun a' w' => S w' ∧ Any P md ops Q S ((F b1 b2).setIfInBounds c true) a' w') (A q1 q2) w)
    {l : Array Bool} {a : Act} {w : World} (h : ∃ b1 b2 q1 q2 g1 g2, M2 W z t A F b1 b2 q1 q2 g1 g2 l a w) : Any P md ops Q S l a w := by
  refine any_stage (fun l a w => ∃ b1 b2 q1 q2 g1 g2, M2 W z t A F b1 b2 q1 q2 g1 g2 l a w) ?_ h
  rintro l a w ⟨b1, b2, q1, q2, g1, g2, hM⟩
  obtain ⟨hl, ha, gr, x1, x2, ne12⟩ := hM
  subst hl ha
  obtain ⟨hne, hr⟩ := chkM2_spec hchk b1 b2
  obtain ⟨f1, f2⟩ := hF b1 b2
  refine ⟨hne, fun i hi => ?_⟩
  rcases hr i hi with ⟨rfl, e⟩ | ⟨rfl, e⟩ | ⟨rfl, e⟩
  · have hg := (Gr.refl w).alloc (.cells z t (0, 0))
    exact new1 q1 q2 w _ ⟨hS _ (gr.trans hg), .inl ⟨true, b2, _, q2, w.heap.size, g2, ⟨f1, rfl, gr.trans hg, fun _ => ⟨rfl, gr.size, blk_new _ _⟩, fun e => (x2 e).more hg, fun _ e => Nat.ne_of_gt (x2 e).lt⟩⟩⟩
  · have hg := (Gr.refl w).alloc (.cells z t (0, 0))
    exact new2 q1 q2 w _ ⟨hS _ (gr.trans hg), .inl ⟨b1, true, q1, _, g1, w.heap.size, ⟨f2, rfl, gr.trans hg, fun e => (x1 e).more hg, fun _ => ⟨rfl, gr.size, blk_new _ _⟩, fun e _ => Nat.ne_of_lt (x1 e).lt⟩⟩⟩
  · refine wpOp_mono (fun a' w' k => ⟨k.1, .inr k.2⟩) (next b1 b2 q1 q2 g1 g2 w ⟨rfl, rfl, gr, x1, x2, ne12⟩ e)


/-- where 4 variables lie, as far as they are made -/
structure M4 (W : World) (z : Array Value) (t : TypeId) (A : Value → Value → Value → Value → Act) (F : Bool → Bool → Bool → Bool → Array Bool) (b1 b2 b3 b4 : Bool) (q1 q2 q3 q4 : Value) (g1 g2 g3 g4 : Nat) (l : Array Bool) (a : Act) (w : World) : Prop where
  hl : l = F b1 b2 b3 b4
  ha : a = A q1 q2 q3 q4
  gr : Gr W w
  x1 : b1 = true → New W z t w q1 g1
  x2 : b2 = true → New W z t w q2 g2
  x3 : b3 = true → New W z t w q3 g3
  x4 : b4 = true → New W z t w q4 g4
  ne12 : b1 = true → b2 = true → g1 ≠ g2
  ne13 : b1 = true → b3 = true → g1 ≠ g3
  ne14 : b1 = true → b4 = true → g1 ≠ g4
  ne23 : b2 = true → b3 = true → g2 ≠ g3
  ne24 : b2 = true → b4 = true → g2 ≠ g4
  ne34 : b3 = true → b4 = true → g3 ≠ g4
theorem M4.go {W : World} {z : Array Value} {t : TypeId} {A A' : Value → Value → Value → Value → Act} {F F' : Bool → Bool → Bool → Bool → Array Bool} {b1 b2 b3 b4 : Bool} {q1 q2 q3 q4 : Value} {g1 g2 g3 g4 : Nat} {l : Array Bool} {a : Act} {w w' : World} (h : M4 W z t A F b1 b2 b3 b4 q1 q2 q3 q4 g1 g2 g3 g4 l a w) (k : Gr w w') :
    M4 W z t A' F' b1 b2 b3 b4 q1 q2 q3 q4 g1 g2 g3 g4 (F' b1 b2 b3 b4) (A' q1 q2 q3 q4) w' := ⟨rfl, rfl, h.gr.trans k, fun e => (h.x1 e).more k, fun e => (h.x2 e).more k, fun e => (h.x3 e).more k, fun e => (h.x4 e).more k, h.ne12, h.ne13, h.ne14, h.ne23, h.ne24, h.ne34⟩
theorem M4.start (W : World) (z : Array Value) (t : TypeId) (A : Value → Value → Value → Value → Act) (F : Bool → Bool → Bool → Bool → Array Bool) : M4 W z t A F false false false false undef undef undef undef 0 0 0 0 (F false false false false) (A undef undef undef undef) W :=
  ⟨rfl, rfl, Gr.refl W, (fun e => by cases e), (fun e => by cases e), (fun e => by cases e), (fun e => by cases e), (fun e => by cases e), (fun e => by cases e), (fun e => by cases e), (fun e => by cases e), (fun e => by cases e), (fun e => by cases e)⟩
/-- all are made -/
theorem M4.all {W : World} {z : Array Value} {t : TypeId} {A : Value → Value → Value → Value → Act} {F : Bool → Bool → Bool → Bool → Array Bool} {q1 q2 q3 q4 : Value} {g1 g2 g3 g4 : Nat} {l : Array Bool} {a : Act} {w W0 : World} {L : List Blk} (h : M4 W z t A F true true true true q1 q2 q3 q4 g1 g2 g3 g4 l a w) (hB : Bl W0 L W) :
    q1 = .pointer (some ⟨g1, 0, none⟩) ∧ q2 = .pointer (some ⟨g2, 0, none⟩) ∧ q3 = .pointer (some ⟨g3, 0, none⟩) ∧ q4 = .pointer (some ⟨g4, 0, none⟩) ∧ Bl W0 (L ++ [⟨g1, z, t⟩, ⟨g2, z, t⟩, ⟨g3, z, t⟩, ⟨g4, z, t⟩]) w := by
  refine ⟨(h.x1 rfl).1, (h.x2 rfl).1, (h.x3 rfl).1, (h.x4 rfl).1, hB.join h.gr _ ?_ ?_⟩
  · intro x hx
    simp only [List.mem_cons, List.not_mem_nil, or_false] at hx
    rcases hx with rfl | rfl | rfl | rfl
    · exact ⟨(h.x1 rfl).2.2, (h.x1 rfl).2.1⟩
    · exact ⟨(h.x2 rfl).2.2, (h.x2 rfl).2.1⟩
    · exact ⟨(h.x3 rfl).2.2, (h.x3 rfl).2.1⟩
    · exact ⟨(h.x4 rfl).2.2, (h.x4 rfl).2.1⟩
  · simp only [List.pairwise_cons, List.mem_cons, List.not_mem_nil, or_false, forall_eq_or_imp, forall_eq, List.Pairwise.nil, and_true, false_implies, implies_true]
    exact ⟨⟨h.ne12 rfl rfl, h.ne13 rfl rfl, h.ne14 rfl rfl⟩, ⟨h.ne23 rfl rfl, h.ne24 rfl rfl⟩, h.ne34 rfl rfl⟩

def chkM4 (md : Region.Mode) (ops : Array Oper) (F : Bool → Bool → Bool → Bool → Array Bool) (i1 i2 i3 i4 c : Nat) (all : Bool) : Bool :=
  [false, true].all fun b1 => [false, true].all fun b2 => [false, true].all fun b3 => [false, true].all fun b4 =>
    !(Region.ready md ops (F b1 b2 b3 b4)).isEmpty && (Region.ready md ops (F b1 b2 b3 b4)).all fun i => (i == i1 && !b1) || (i == i2 && !b2) || (i == i3 && !b3) || (i == i4 && !b4) || (i == c && (!all || (b1 && b2 && b3 && b4)))
theorem chkM4_spec {md : Region.Mode} {ops : Array Oper} {F : Bool → Bool → Bool → Bool → Array Bool} {i1 i2 i3 i4 c : Nat} {all : Bool} (h : chkM4 md ops F i1 i2 i3 i4 c all = true) :
    ∀ b1 b2 b3 b4, Region.ready md ops (F b1 b2 b3 b4) ≠ [] ∧ ∀ i ∈ Region.ready md ops (F b1 b2 b3 b4), (i = i1 ∧ b1 = false) ∨ (i = i2 ∧ b2 = false) ∨ (i = i3 ∧ b3 = false) ∨ (i = i4 ∧ b4 = false) ∨ (i = c ∧ (all = true → b1 = true ∧ b2 = true ∧ b3 = true ∧ b4 = true)) := by
  have mb : ∀ b : Bool, b ∈ [false, true] := by intro b; cases b <;> simp
  intro b1 b2 b3 b4
  have h1 := (List.all_eq_true.1 (List.all_eq_true.1 (List.all_eq_true.1 (List.all_eq_true.1 h b1 (mb b1)) b2 (mb b2)) b3 (mb b3)) b4 (mb b4))
  rw [Bool.and_eq_true] at h1
  refine ⟨fun e => ?_, fun i hi => ?_⟩
  · rw [e] at h1
    exact absurd h1.1 (by decide)
  · have h2 := List.all_eq_true.1 h1.2 i hi
    rw [Bool.or_eq_true] at h2
    rcases h2 with h2 | h2
    · simp only [Bool.or_eq_true, Bool.and_eq_true, beq_iff_eq, Bool.not_eq_true', or_assoc] at h2
      rcases h2 with h2 | h2 | h2 | h2
      · exact .inl h2
      · exact .inr (.inl h2)
      · exact .inr (.inr (.inl h2))
      · exact .inr (.inr (.inr (.inl h2)))
    · rw [Bool.and_eq_true, beq_iff_eq] at h2
      obtain ⟨rfl, h3⟩ := h2
      refine .inr (.inr (.inr (.inr ⟨rfl, fun ha => ?_⟩)))
      rw [ha] at h3
      simpa [and_assoc] using h3

/-- one stage: the variables are made, or the operation c is carried out -/
theorem stage4 {P : Program} {md : Region.Mode} {ops : Array Oper} {Q : Exit → Act → World → Prop} {S : World → Prop} (W : World) (z : Array Value) (t : TypeId) (A : Value → Value → Value → Value → Act) (F : Bool → Bool → Bool → Bool → Array Bool) (i1 i2 i3 i4 c : Nat) (all : Bool)
    (hS : ∀ v, Gr W v → S v) (hchk : chkM4 md ops F i1 i2 i3 i4 c all = true)
    (hF : ∀ b1 b2 b3 b4, (F b1 b2 b3 b4).setIfInBounds i1 true = F true b2 b3 b4 ∧ (F b1 b2 b3 b4).setIfInBounds i2 true = F b1 true b3 b4 ∧ (F b1 b2 b3 b4).setIfInBounds i3 true = F b1 b2 true b4 ∧ (F b1 b2 b3 b4).setIfInBounds i4 true = F b1 b2 b3 true)
    (new1 : ∀ q1 q2 q3 q4 w (K : Act → World → Prop), K (A (.pointer (some ⟨w.heap.size, 0, none⟩)) q2 q3 q4) (w.alloc (.cells z t (0, 0))) → wpOp P ops Q i1 K (A q1 q2 q3 q4) w)
    (new2 : ∀ q1 q2 q3 q4 w (K : Act → World → Prop), K (A q1 (.pointer (some ⟨w.heap.size, 0, none⟩)) q3 q4) (w.alloc (.cells z t (0, 0))) → wpOp P ops Q i2 K (A q1 q2 q3 q4) w)
    (new3 : ∀ q1 q2 q3 q4 w (K : Act → World → Prop), K (A q1 q2 (.pointer (some ⟨w.heap.size, 0, none⟩)) q4) (w.alloc (.cells z t (0, 0))) → wpOp P ops Q i3 K (A q1 q2 q3 q4) w)
    (new4 : ∀ q1 q2 q3 q4 w (K : Act → World → Prop), K (A q1 q2 q3 (.pointer (some ⟨w.heap.size, 0, none⟩))) (w.alloc (.cells z t (0, 0))) → wpOp P ops Q i4 K (A q1 q2 q3 q4) w)
    (next : ∀ b1 b2 b3 b4 q1 q2 q3 q4 g1 g2 g3 g4 w, M4 W z t A F b1 b2 b3 b4 q1 q2 q3 q4 g1 g2 g3 g4 (F b1 b2 b3 b4) (A q1 q2 q3 q4) w → (all = true → b1 = true ∧ b2 = true ∧ b3 = true ∧ b4 = true) → wpOp P ops Q c (fun a' w' => S w' ∧ Any P md ops Q S ((F b1 b2 b3 b4).setIfInBounds c true) a' w') (A q1 q2 q3 q4) w)
    {l : Array Bool} {a : Act} {w : World} (h : ∃ b1 b2 b3 b4 q1 q2 q3 q4 g1 g2 g3 g4, M4 W z t A F b1 b2 b3 b4 q1 q2 q3 q4 g1 g2 g3 g4 l a w) : Any P md ops Q S l a w := by
  refine any_stage (fun l a w => ∃ b1 b2 b3 b4 q1 q2 q3 q4 g1 g2 g3 g4, M4 W z t A F b1 b2 b3 b4 q1 q2 q3 q4 g1 g2 g3 g4 l a w) ?_ h
  rintro l a w ⟨b1, b2, b3, b4, q1, q2, q3, q4, g1, g2, g3, g4, hM⟩
  obtain ⟨hl, ha, gr, x1, x2, x3, x4, ne12, ne13, ne14, ne23, ne24, ne34⟩ := hM
  subst hl ha
  obtain ⟨hne, hr⟩ := chkM4_spec hchk b1 b2 b3 b4
  obtain ⟨f1, f2, f3, f4⟩ := hF b1 b2 b3 b4
  refine ⟨hne, fun i hi => ?_⟩
  rcases hr i hi with ⟨rfl, e⟩ | ⟨rfl, e⟩ | ⟨rfl, e⟩ | ⟨rfl, e⟩ | ⟨rfl, e⟩
  · have hg := (Gr.refl w).alloc (.cells z t (0, 0))
    exact new1 q1 q2 q3 q4 w _ ⟨hS _ (gr.trans hg), .inl ⟨true, b2, b3, b4, _, q2, q3, q4, w.heap.size, g2, g3, g4, ⟨f1, rfl, gr.trans hg, fun _ => ⟨rfl, gr.size, blk_new _ _⟩, fun e => (x2 e).more hg, fun e => (x3 e).more hg, fun e => (x4 e).more hg, fun _ e => Nat.ne_of_gt (x2 e).lt, fun _ e => Nat.ne_of_gt (x3 e).lt, fun _ e => Nat.ne_of_gt (x4 e).lt, ne23, ne24, ne34⟩⟩⟩
  · have hg := (Gr.refl w).alloc (.cells z t (0, 0))
    exact new2 q1 q2 q3 q4 w _ ⟨hS _ (gr.trans hg), .inl ⟨b1, true, b3, b4, q1, _, q3, q4, g1, w.heap.size, g3, g4, ⟨f2, rfl, gr.trans hg, fun e => (x1 e).more hg, fun _ => ⟨rfl, gr.size, blk_new _ _⟩, fun e => (x3 e).more hg, fun e => (x4 e).more hg, fun e _ => Nat.ne_of_lt (x1 e).lt, ne13, ne14, fun _ e => Nat.ne_of_gt (x3 e).lt, fun _ e => Nat.ne_of_gt (x4 e).lt, ne34⟩⟩⟩
  · have hg := (Gr.refl w).alloc (.cells z t (0, 0))
    exact new3 q1 q2 q3 q4 w _ ⟨hS _ (gr.trans hg), .inl ⟨b1, b2, true, b4, q1, q2, _, q4, g1, g2, w.heap.size, g4, ⟨f3, rfl, gr.trans hg, fun e => (x1 e).more hg, fun e => (x2 e).more hg, fun _ => ⟨rfl, gr.size, blk_new _ _⟩, fun e => (x4 e).more hg, ne12, fun e _ => Nat.ne_of_lt (x1 e).lt, ne14, fun e _ => Nat.ne_of_lt (x2 e).lt, ne24, fun _ e => Nat.ne_of_gt (x4 e).lt⟩⟩⟩
  · have hg := (Gr.refl w).alloc (.cells z t (0, 0))
    exact new4 q1 q2 q3 q4 w _ ⟨hS _ (gr.trans hg), .inl ⟨b1, b2, b3, true, q1, q2, q3, _, g1, g2, g3, w.heap.size, ⟨f4, rfl, gr.trans hg, fun e => (x1 e).more hg, fun e => (x2 e).more hg, fun e => (x3 e).more hg, fun _ => ⟨rfl, gr.size, blk_new _ _⟩, ne12, ne13, fun e _ => Nat.ne_of_lt (x1 e).lt, ne23, fun e _ => Nat.ne_of_lt (x2 e).lt, fun e _ => Nat.ne_of_lt (x3 e).lt⟩⟩⟩
  · refine wpOp_mono (fun a' w' k => ⟨k.1, .inr k.2⟩) (next b1 b2 b3 b4 q1 q2 q3 q4 g1 g2 g3 g4 w ⟨rfl, rfl, gr, x1, x2, x3, x4, ne12, ne13, ne14, ne23, ne24, ne34⟩ e)


/-- where 5 variables lie, as far as they are made -/
structure M5 (W : World) (z : Array Value) (t : TypeId) (A : Value → Value → Value → Value → Value → Act) (F : Bool → Bool → Bool → Bool → Bool → Array Bool) (b1 b2 b3 b4 b5 : Bool) (q1 q2 q3 q4 q5 : Value) (g1 g2 g3 g4 g5 : Nat) (l : Array Bool) (a : Act) (w : World) : Prop where
  hl : l = F b1 b2 b3 b4 b5
  ha : a = A q1 q2 q3 q4 q5
  gr : Gr W w
  x1 : b1 = true → New W z t w q1 g1
  x2 : b2 = true → New W z t w q2 g2
  x3 : b3 = true → New W z t w q3 g3
  x4 : b4 = true → New W z t w q4 g4
  x5 : b5 = true → New W z t w q5 g5
  ne12 : b1 = true → b2 = true → g1 ≠ g2
  ne13 : b1 = true → b3 = true → g1 ≠ g3
  ne14 : b1 = true → b4 = true → g1 ≠ g4
  ne15 : b1 = true → b5 = true → g1 ≠ g5
  ne23 : b2 = true → b3 = true → g2 ≠ g3
  ne24 : b2 = true → b4 = true → g2 ≠ g4
  ne25 : b2 = true → b5 = true → g2 ≠ g5
  ne34 : b3 = true → b4 = true → g3 ≠ g4
  ne35 : b3 = true → b5 = true → g3 ≠ g5
  ne45 : b4 = true → b5 = true → g4 ≠ g5
theorem M5.go {W : World} {z : Array Value} {t : TypeId} {A A' : Value → Value → Value → Value → Value → Act} {F F' : Bool → Bool → Bool → Bool → Bool → Array Bool} {b1 b2 b3 b4 b5 : Bool} {q1 q2 q3 q4 q5 : Value} {g1 g2 g3 g4 g5 : Nat} {l : Array Bool} {a : Act} {w w' : World} (h : M5 W z t A F b1 b2 b3 b4 b5 q1 q2 q3 q4 q5 g1 g2 g3 g4 g5 l a w) (k : Gr w w') :
    M5 W z t A' F' b1 b2 b3 b4 b5 q1 q2 q3 q4 q5 g1 g2 g3 g4 g5 (F' b1 b2 b3 b4 b5) (A' q1 q2 q3 q4 q5) w' := ⟨rfl, rfl, h.gr.trans k, fun e => (h.x1 e).more k, fun e => (h.x2 e).more k, fun e => (h.x3 e).more k, fun e => (h.x4 e).more k, fun e => (h.x5 e).more k, h.ne12, h.ne13, h.ne14, h.ne15, h.ne23, h.ne24, h.ne25, h.ne34, h.ne35, h.ne45⟩
theorem M5.start (W : World) (z : Array Value) (t : TypeId) (A : Value → Value → Value → Value → Value → Act) (F : Bool → Bool → Bool → Bool → Bool → Array Bool) : M5 W z t A F false false false false false undef undef undef undef undef 0 0 0 0 0 (F false false false false false) (A undef undef undef undef undef) W :=
  ⟨rfl, rfl, Gr.refl W, (fun e => by cases e), (fun e => by cases e), (fun e => by cases e), (fun e => by cases e), (fun e => by cases e), (fun e => by cases e), (fun e => by cases e), (fun e => by cases e), (fun e => by cases e), (fun e => by cases e), (fun e => by cases e), (fun e => by cases e), (fun e => by cases e), (fun e => by cases e), (fun e => by cases e)⟩
/-- all are made -/
theorem M5.all {W : World} {z : Array Value} {t : TypeId} {A : Value → Value → Value → Value → Value → Act} {F : Bool → Bool → Bool → Bool → Bool → Array Bool} {q1 q2 q3 q4 q5 : Value} {g1 g2 g3 g4 g5 : Nat} {l : Array Bool} {a : Act} {w W0 : World} {L : List Blk} (h : M5 W z t A F true true true true true q1 q2 q3 q4 q5 g1 g2 g3 g4 g5 l a w) (hB : Bl W0 L W) :
    q1 = .pointer (some ⟨g1, 0, none⟩) ∧ q2 = .pointer (some ⟨g2, 0, none⟩) ∧ q3 = .pointer (some ⟨g3, 0, none⟩) ∧ q4 = .pointer (some ⟨g4, 0, none⟩) ∧ q5 = .pointer (some ⟨g5, 0, none⟩) ∧ Bl W0 (L ++ [⟨g1, z, t⟩, ⟨g2, z, t⟩, ⟨g3, z, t⟩, ⟨g4, z, t⟩, ⟨g5, z, t⟩]) w := by
  refine ⟨(h.x1 rfl).1, (h.x2 rfl).1, (h.x3 rfl).1, (h.x4 rfl).1, (h.x5 rfl).1, hB.join h.gr _ ?_ ?_⟩
  · intro x hx
    simp only [List.mem_cons, List.not_mem_nil, or_false] at hx
    rcases hx with rfl | rfl | rfl | rfl | rfl
    · exact ⟨(h.x1 rfl).2.2, (h.x1 rfl).2.1⟩
    · exact ⟨(h.x2 rfl).2.2, (h.x2 rfl).2.1⟩
    · exact ⟨(h.x3 rfl).2.2, (h.x3 rfl).2.1⟩
    · exact ⟨(h.x4 rfl).2.2, (h.x4 rfl).2.1⟩
    · exact ⟨(h.x5 rfl).2.2, (h.x5 rfl).2.1⟩
  · simp only [List.pairwise_cons, List.mem_cons, List.not_mem_nil, or_false, forall_eq_or_imp, forall_eq, List.Pairwise.nil, and_true, false_implies, implies_true]
    exact ⟨⟨h.ne12 rfl rfl, h.ne13 rfl rfl, h.ne14 rfl rfl, h.ne15 rfl rfl⟩, ⟨h.ne23 rfl rfl, h.ne24 rfl rfl, h.ne25 rfl rfl⟩, ⟨h.ne34 rfl rfl, h.ne35 rfl rfl⟩, h.ne45 rfl rfl⟩

def chkM5 (md : Region.Mode) (ops : Array Oper) (F : Bool → Bool → Bool → Bool → Bool → Array Bool) (i1 i2 i3 i4 i5 c : Nat) (all : Bool) : Bool :=
  [false, true].all fun b1 => [false, true].all fun b2 => [false, true].all fun b3 => [false, true].all fun b4 => [false, true].all fun b5 =>
    !(Region.ready md ops (F b1 b2 b3 b4 b5)).isEmpty && (Region.ready md ops (F b1 b2 b3 b4 b5)).all fun i => (i == i1 && !b1) || (i == i2 && !b2) || (i == i3 && !b3) || (i == i4 && !b4) || (i == i5 && !b5) || (i == c && (!all || (b1 && b2 && b3 && b4 && b5)))
theorem chkM5_spec {md : Region.Mode} {ops : Array Oper} {F : Bool → Bool → Bool → Bool → Bool → Array Bool} {i1 i2 i3 i4 i5 c : Nat} {all : Bool} (h : chkM5 md ops F i1 i2 i3 i4 i5 c all = true) :
    ∀ b1 b2 b3 b4 b5, Region.ready md ops (F b1 b2 b3 b4 b5) ≠ [] ∧ ∀ i ∈ Region.ready md ops (F b1 b2 b3 b4 b5), (i = i1 ∧ b1 = false) ∨ (i = i2 ∧ b2 = false) ∨ (i = i3 ∧ b3 = false) ∨ (i = i4 ∧ b4 = false) ∨ (i = i5 ∧ b5 = false) ∨ (i = c ∧ (all = true → b1 = true ∧ b2 = true ∧ b3 = true ∧ b4 = true ∧ b5 = true)) := by
  have mb : ∀ b : Bool, b ∈ [false, true] := by intro b; cases b <;> simp
  intro b1 b2 b3 b4 b5
  have h1 := (List.all_eq_true.1 (List.all_eq_true.1 (List.all_eq_true.1 (List.all_eq_true.1 (List.all_eq_true.1 h b1 (mb b1)) b2 (mb b2)) b3 (mb b3)) b4 (mb b4)) b5 (mb b5))
  rw [Bool.and_eq_true] at h1
  refine ⟨fun e => ?_, fun i hi => ?_⟩
  · rw [e] at h1
    exact absurd h1.1 (by decide)
  · have h2 := List.all_eq_true.1 h1.2 i hi
    rw [Bool.or_eq_true] at h2
    rcases h2 with h2 | h2
    · simp only [Bool.or_eq_true, Bool.and_eq_true, beq_iff_eq, Bool.not_eq_true', or_assoc] at h2
      rcases h2 with h2 | h2 | h2 | h2 | h2
      · exact .inl h2
      · exact .inr (.inl h2)
      · exact .inr (.inr (.inl h2))
      · exact .inr (.inr (.inr (.inl h2)))
      · exact .inr (.inr (.inr (.inr (.inl h2))))
    · rw [Bool.and_eq_true, beq_iff_eq] at h2
      obtain ⟨rfl, h3⟩ := h2
      refine .inr (.inr (.inr (.inr (.inr ⟨rfl, fun ha => ?_⟩))))
      rw [ha] at h3
      simpa [and_assoc] using h3

/-- one stage: the variables are made, or the operation c is carried out -/
theorem stage5 {P : Program} {md : Region.Mode} {ops : Array Oper} {Q : Exit → Act → World → Prop} {S : World → Prop} (W : World) (z : Array Value) (t : TypeId) (A : Value → Value → Value → Value → Value → Act) (F : Bool → Bool → Bool → Bool → Bool → Array Bool) (i1 i2 i3 i4 i5 c : Nat) (all : Bool)
    (hS : ∀ v, Gr W v → S v) (hchk : chkM5 md ops F i1 i2 i3 i4 i5 c all = true)
    (hF : ∀ b1 b2 b3 b4 b5, (F b1 b2 b3 b4 b5).setIfInBounds i1 true = F true b2 b3 b4 b5 ∧ (F b1 b2 b3 b4 b5).setIfInBounds i2 true = F b1 true b3 b4 b5 ∧ (F b1 b2 b3 b4 b5).setIfInBounds i3 true = F b1 b2 true b4 b5 ∧ (F b1 b2 b3 b4 b5).setIfInBounds i4 true = F b1 b2 b3 true b5 ∧ (F b1 b2 b3 b4 b5).setIfInBounds i5 true = F b1 b2 b3 b4 true)
    (new1 : ∀ q1 q2 q3 q4 q5 w (K : Act → World → Prop), K (A (.pointer (some ⟨w.heap.size, 0, none⟩)) q2 q3 q4 q5) (w.alloc (.cells z t (0, 0))) → wpOp P ops Q i1 K (A q1 q2 q3 q4 q5) w)
    (new2 : ∀ q1 q2 q3 q4 q5 w (K : Act → World → Prop), K (A q1 (.pointer (some ⟨w.heap.size, 0, none⟩)) q3 q4 q5) (w.alloc (.cells z t (0, 0))) → wpOp P ops Q i2 K (A q1 q2 q3 q4 q5) w)
    (new3 : ∀ q1 q2 q3 q4 q5 w (K : Act → World → Prop), K (A q1 q2 (.pointer (some ⟨w.heap.size, 0, none⟩)) q4 q5) (w.alloc (.cells z t (0, 0))) → wpOp P ops Q i3 K (A q1 q2 q3 q4 q5) w)
    (new4 : ∀ q1 q2 q3 q4 q5 w (K : Act → World → Prop), K (A q1 q2 q3 (.pointer (some ⟨w.heap.size, 0, none⟩)) q5) (w.alloc (.cells z t (0, 0))) → wpOp P ops Q i4 K (A q1 q2 q3 q4 q5) w)
    (new5 : ∀ q1 q2 q3 q4 q5 w (K : Act → World → Prop), K (A q1 q2 q3 q4 (.pointer (some ⟨w.heap.size, 0, none⟩))) (w.alloc (.cells z t (0, 0))) → wpOp P ops Q i5 K (A q1 q2 q3 q4 q5) w)
    (next : ∀ b1 b2 b3 b4 b5 q1 q2 q3 q4 q5 g1 g2 g3 g4 g5 w, M5 W z t A F b1 b2 b3 b4 b5 q1 q2 q3 q4 q5 g1 g2 g3 g4 g5 (F b1 b2 b3 b4 b5) (A q1 q2 q3 q4 q5) w → (all = true → b1 = true ∧ b2 = true ∧ b3 = true ∧ b4 = true ∧ b5 = true) → wpOp P ops Q c (fun a' w' => S w' ∧ Any P md ops Q S ((F b1 b2 b3 b4 b5).setIfInBounds c true) a' w') (A q1 q2 q3 q4 q5) w)
    {l : Array Bool} {a : Act} {w : World} (h : ∃ b1 b2 b3 b4 b5 q1 q2 q3 q4 q5 g1 g2 g3 g4 g5, M5 W z t A F b1 b2 b3 b4 b5 q1 q2 q3 q4 q5 g1 g2 g3 g4 g5 l a w) : Any P md ops Q S l a w := by
  refine any_stage (fun l a w => ∃ b1 b2 b3 b4 b5 q1 q2 q3 q4 q5 g1 g2 g3 g4 g5, M5 W z t A F b1 b2 b3 b4 b5 q1 q2 q3 q4 q5 g1 g2 g3 g4 g5 l a w) ?_ h
  rintro l a w ⟨b1, b2, b3, b4, b5, q1, q2, q3, q4, q5, g1, g2, g3, g4, g5, hM⟩
  obtain ⟨hl, ha, gr, x1, x2, x3, x4, x5, ne12, ne13, ne14, ne15, ne23, ne24, ne25, ne34, ne35, ne45⟩ := hM
  subst hl ha
  obtain ⟨hne, hr⟩ := chkM5_spec hchk b1 b2 b3 b4 b5
  obtain ⟨f1, f2, f3, f4, f5⟩ := hF b1 b2 b3 b4 b5
  refine ⟨hne, fun i hi => ?_⟩
  rcases hr i hi with ⟨rfl, e⟩ | ⟨rfl, e⟩ | ⟨rfl, e⟩ | ⟨rfl, e⟩ | ⟨rfl, e⟩ | ⟨rfl, e⟩
  · have hg := (Gr.refl w).alloc (.cells z t (0, 0))
    exact new1 q1 q2 q3 q4 q5 w _ ⟨hS _ (gr.trans hg), .inl ⟨true, b2, b3, b4, b5, _, q2, q3, q4, q5, w.heap.size, g2, g3, g4, g5, ⟨f1, rfl, gr.trans hg, fun _ => ⟨rfl, gr.size, blk_new _ _⟩, fun e => (x2 e).more hg, fun e => (x3 e).more hg, fun e => (x4 e).more hg, fun e => (x5 e).more hg, fun _ e => Nat.ne_of_gt (x2 e).lt, fun _ e => Nat.ne_of_gt (x3 e).lt, fun _ e => Nat.ne_of_gt (x4 e).lt, fun _ e => Nat.ne_of_gt (x5 e).lt, ne23, ne24, ne25, ne34, ne35, ne45⟩⟩⟩
  · have hg := (Gr.refl w).alloc (.cells z t (0, 0))
    exact new2 q1 q2 q3 q4 q5 w _ ⟨hS _ (gr.trans hg), .inl ⟨b1, true, b3, b4, b5, q1, _, q3, q4, q5, g1, w.heap.size, g3, g4, g5, ⟨f2, rfl, gr.trans hg, fun e => (x1 e).more hg, fun _ => ⟨rfl, gr.size, blk_new _ _⟩, fun e => (x3 e).more hg, fun e => (x4 e).more hg, fun e => (x5 e).more hg, fun e _ => Nat.ne_of_lt (x1 e).lt, ne13, ne14, ne15, fun _ e => Nat.ne_of_gt (x3 e).lt, fun _ e => Nat.ne_of_gt (x4 e).lt, fun _ e => Nat.ne_of_gt (x5 e).lt, ne34, ne35, ne45⟩⟩⟩
  · have hg := (Gr.refl w).alloc (.cells z t (0, 0))
    exact new3 q1 q2 q3 q4 q5 w _ ⟨hS _ (gr.trans hg), .inl ⟨b1, b2, true, b4, b5, q1, q2, _, q4, q5, g1, g2, w.heap.size, g4, g5, ⟨f3, rfl, gr.trans hg, fun e => (x1 e).more hg, fun e => (x2 e).more hg, fun _ => ⟨rfl, gr.size, blk_new _ _⟩, fun e => (x4 e).more hg, fun e => (x5 e).more hg, ne12, fun e _ => Nat.ne_of_lt (x1 e).lt, ne14, ne15, fun e _ => Nat.ne_of_lt (x2 e).lt, ne24, ne25, fun _ e => Nat.ne_of_gt (x4 e).lt, fun _ e => Nat.ne_of_gt (x5 e).lt, ne45⟩⟩⟩
  · have hg := (Gr.refl w).alloc (.cells z t (0, 0))
    exact new4 q1 q2 q3 q4 q5 w _ ⟨hS _ (gr.trans hg), .inl ⟨b1, b2, b3, true, b5, q1, q2, q3, _, q5, g1, g2, g3, w.heap.size, g5, ⟨f4, rfl, gr.trans hg, fun e => (x1 e).more hg, fun e => (x2 e).more hg, fun e => (x3 e).more hg, fun _ => ⟨rfl, gr.size, blk_new _ _⟩, fun e => (x5 e).more hg, ne12, ne13, fun e _ => Nat.ne_of_lt (x1 e).lt, ne15, ne23, fun e _ => Nat.ne_of_lt (x2 e).lt, ne25, fun e _ => Nat.ne_of_lt (x3 e).lt, ne35, fun _ e => Nat.ne_of_gt (x5 e).lt⟩⟩⟩
  · have hg := (Gr.refl w).alloc (.cells z t (0, 0))
    exact new5 q1 q2 q3 q4 q5 w _ ⟨hS _ (gr.trans hg), .inl ⟨b1, b2, b3, b4, true, q1, q2, q3, q4, _, g1, g2, g3, g4, w.heap.size, ⟨f5, rfl, gr.trans hg, fun e => (x1 e).more hg, fun e => (x2 e).more hg, fun e => (x3 e).more hg, fun e => (x4 e).more hg, fun _ => ⟨rfl, gr.size, blk_new _ _⟩, ne12, ne13, ne14, fun e _ => Nat.ne_of_lt (x1 e).lt, ne23, ne24, fun e _ => Nat.ne_of_lt (x2 e).lt, ne34, fun e _ => Nat.ne_of_lt (x3 e).lt, fun e _ => Nat.ne_of_lt (x4 e).lt⟩⟩⟩
  · refine wpOp_mono (fun a' w' k => ⟨k.1, .inr k.2⟩) (next b1 b2 b3 b4 b5 q1 q2 q3 q4 q5 g1 g2 g3 g4 g5 w ⟨rfl, rfl, gr, x1, x2, x3, x4, x5, ne12, ne13, ne14, ne15, ne23, ne24, ne25, ne34, ne35, ne45⟩ e)


def fw1 (a : Act) (p1 : Nat) (q1 : Value) : Act := ⟨(a.tmps.setIfInBounds p1 q1), a.defers⟩
theorem M1.re {W : World} {z : Array Value} {t : TypeId} {A A' : Value → Act} {F F' : Bool → Array Bool} {b1 : Bool} {q1 : Value} {g1 : Nat} {l l' : Array Bool} {a a' : Act} {w w' : World} (h : M1 W z t A F b1 q1 g1 l a w) (k : Gr w w') (hl : l' = F' b1) (ha : a' = A' q1) :
    M1 W z t A' F' b1 q1 g1 l' a' w' := ⟨hl, ha, h.gr.trans k, fun e => (h.x1 e).more k⟩
theorem M1.again {W : World} {z : Array Value} {t : TypeId} {A : Value → Act} {F F' : Bool → Array Bool} {b1 : Bool} {q1 : Value} {g1 : Nat} {p1 : Nat} {l l' : Array Bool} {a a' : Act} {w w' : World} (h : M1 W z t A F b1 q1 g1 l a w) (k : Gr w w') (hl : l' = F' b1) (ha : fw1 a' p1 q1 = a') :
    M1 W z t (fw1 a' p1) F' b1 q1 g1 l' a' w' := h.re k hl ha.symm
theorem M1.first {W : World} {z : Array Value} {t : TypeId} (F : Bool → Array Bool) {p1 : Nat} {l : Array Bool} (a : Act) (hl : l = F false) (ha : fw1 a p1 (a.tmps.getD p1 undef) = a) :
    ∃ b1 q1 g1, M1 W z t (fw1 a p1) F b1 q1 g1 l a W :=
  ⟨false, a.tmps.getD p1 undef, 0, ⟨hl, ha.symm, Gr.refl W, (fun e => by cases e)⟩⟩

def fw2 (a : Act) (p1 p2 : Nat) (q1 q2 : Value) : Act := ⟨((a.tmps.setIfInBounds p1 q1).setIfInBounds p2 q2), a.defers⟩
theorem M2.re {W : World} {z : Array Value} {t : TypeId} {A A' : Value → Value → Act} {F F' : Bool → Bool → Array Bool} {b1 b2 : Bool} {q1 q2 : Value} {g1 g2 : Nat} {l l' : Array Bool} {a a' : Act} {w w' : World} (h : M2 W z t A F b1 b2 q1 q2 g1 g2 l a w) (k : Gr w w') (hl : l' = F' b1 b2) (ha : a' = A' q1 q2) :
    M2 W z t A' F' b1 b2 q1 q2 g1 g2 l' a' w' := ⟨hl, ha, h.gr.trans k, fun e => (h.x1 e).more k, fun e => (h.x2 e).more k, h.ne12⟩
theorem M2.again {W : World} {z : Array Value} {t : TypeId} {A : Value → Value → Act} {F F' : Bool → Bool → Array Bool} {b1 b2 : Bool} {q1 q2 : Value} {g1 g2 : Nat} {p1 p2 : Nat} {l l' : Array Bool} {a a' : Act} {w w' : World} (h : M2 W z t A F b1 b2 q1 q2 g1 g2 l a w) (k : Gr w w') (hl : l' = F' b1 b2) (ha : fw2 a' p1 p2 q1 q2 = a') :
    M2 W z t (fw2 a' p1 p2) F' b1 b2 q1 q2 g1 g2 l' a' w' := h.re k hl ha.symm
theorem M2.first {W : World} {z : Array Value} {t : TypeId} (F : Bool → Bool → Array Bool) {p1 p2 : Nat} {l : Array Bool} (a : Act) (hl : l = F false false) (ha : fw2 a p1 p2 (a.tmps.getD p1 undef) (a.tmps.getD p2 undef) = a) :
    ∃ b1 b2 q1 q2 g1 g2, M2 W z t (fw2 a p1 p2) F b1 b2 q1 q2 g1 g2 l a W :=
  ⟨false, false, a.tmps.getD p1 undef, a.tmps.getD p2 undef, 0, 0, ⟨hl, ha.symm, Gr.refl W, (fun e => by cases e), (fun e => by cases e), (fun e => by cases e)⟩⟩

def fw4 (a : Act) (p1 p2 p3 p4 : Nat) (q1 q2 q3 q4 : Value) : Act := ⟨((((a.tmps.setIfInBounds p1 q1).setIfInBounds p2 q2).setIfInBounds p3 q3).setIfInBounds p4 q4), a.defers⟩
theorem M4.re {W : World} {z : Array Value} {t : TypeId} {A A' : Value → Value → Value → Value → Act} {F F' : Bool → Bool → Bool → Bool → Array Bool} {b1 b2 b3 b4 : Bool} {q1 q2 q3 q4 : Value} {g1 g2 g3 g4 : Nat} {l l' : Array Bool} {a a' : Act} {w w' : World} (h : M4 W z t A F b1 b2 b3 b4 q1 q2 q3 q4 g1 g2 g3 g4 l a w) (k : Gr w w') (hl : l' = F' b1 b2 b3 b4) (ha : a' = A' q1 q2 q3 q4) :
    M4 W z t A' F' b1 b2 b3 b4 q1 q2 q3 q4 g1 g2 g3 g4 l' a' w' := ⟨hl, ha, h.gr.trans k, fun e => (h.x1 e).more k, fun e => (h.x2 e).more k, fun e => (h.x3 e).more k, fun e => (h.x4 e).more k, h.ne12, h.ne13, h.ne14, h.ne23, h.ne24, h.ne34⟩
theorem M4.again {W : World} {z : Array Value} {t : TypeId} {A : Value → Value → Value → Value → Act} {F F' : Bool → Bool → Bool → Bool → Array Bool} {b1 b2 b3 b4 : Bool} {q1 q2 q3 q4 : Value} {g1 g2 g3 g4 : Nat} {p1 p2 p3 p4 : Nat} {l l' : Array Bool} {a a' : Act} {w w' : World} (h : M4 W z t A F b1 b2 b3 b4 q1 q2 q3 q4 g1 g2 g3 g4 l a w) (k : Gr w w') (hl : l' = F' b1 b2 b3 b4) (ha : fw4 a' p1 p2 p3 p4 q1 q2 q3 q4 = a') :
    M4 W z t (fw4 a' p1 p2 p3 p4) F' b1 b2 b3 b4 q1 q2 q3 q4 g1 g2 g3 g4 l' a' w' := h.re k hl ha.symm
theorem M4.first {W : World} {z : Array Value} {t : TypeId} (F : Bool → Bool → Bool → Bool → Array Bool) {p1 p2 p3 p4 : Nat} {l : Array Bool} (a : Act) (hl : l = F false false false false) (ha : fw4 a p1 p2 p3 p4 (a.tmps.getD p1 undef) (a.tmps.getD p2 undef) (a.tmps.getD p3 undef) (a.tmps.getD p4 undef) = a) :
    ∃ b1 b2 b3 b4 q1 q2 q3 q4 g1 g2 g3 g4, M4 W z t (fw4 a p1 p2 p3 p4) F b1 b2 b3 b4 q1 q2 q3 q4 g1 g2 g3 g4 l a W :=
  ⟨false, false, false, false, a.tmps.getD p1 undef, a.tmps.getD p2 undef, a.tmps.getD p3 undef, a.tmps.getD p4 undef, 0, 0, 0, 0, ⟨hl, ha.symm, Gr.refl W, (fun e => by cases e), (fun e => by cases e), (fun e => by cases e), (fun e => by cases e), (fun e => by cases e), (fun e => by cases e), (fun e => by cases e), (fun e => by cases e), (fun e => by cases e), (fun e => by cases e)⟩⟩

end Go.Proofs.Ytcefkkoombmndaa
