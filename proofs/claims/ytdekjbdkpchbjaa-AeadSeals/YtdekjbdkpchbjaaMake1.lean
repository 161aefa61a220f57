/-
  A region that draws its order and in which 1 variables are made while calls go on: stage by stage.
-/
import Derived.Test.YtdekjbdkpchbjaaAny
namespace Go.Proofs.Ytdekjbdkpchbjaa
open Go.RowKit
set_option maxRecDepth 100000

/-- where 1 variables lie, as far as they are made -/
structure M1 (W : World) (z : Array Value) (t : TypeId) (A : Value → Act) (F : Bool → Array Bool) (b1 : Bool) (q1 : Value) (g1 : Nat) (l : Array Bool) (a : Act) (w : World) : Prop where
  hl : l = F b1
  ha : a = A q1
  gr : Gr W w
  x1 : b1 = true → New W z t w q1 g1
theorem M1.go {W : World} {z : Array Value} {t : TypeId} {A A' : Value → Act} {F F' : Bool → Array Bool} {b1 : Bool} {q1 : Value} {g1 : Nat} {l : Array Bool} {a : Act} {w w' : World} (h : M1 W z t A F b1 q1 g1 l a w) (k : Gr w w') :
    M1 W z t A' F' b1 q1 g1 (F' b1) (A' q1) w' := ⟨rfl, rfl, h.gr.trans k, fun e => (h.x1 e).more k⟩
theorem M1.start (W : World) (z : Array Value) (t : TypeId) (A : Value → Act) (F : Bool → Array Bool) : M1 W z t A F false undef 0 (F false) (A undef) W :=
  ⟨rfl, rfl, Gr.refl W, (fun e => by cases e)⟩
/-- all are made -/
theorem M1.all {W : World} {z : Array Value} {t : TypeId} {A : Value → Act} {F : Bool → Array Bool} {q1 : Value} {g1 : Nat} {l : Array Bool} {a : Act} {w W0 : World} {L : List Blk} (h : M1 W z t A F true q1 g1 l a w) (hB : Bl W0 L W) :
    q1 = .pointer (some ⟨g1, 0, none⟩) ∧ Bl W0 (L ++ [⟨g1, z, t⟩]) w := by
  refine ⟨(h.x1 rfl).1, hB.join h.gr _ ?_ ?_⟩
  · intro x hx
    simp only [List.mem_cons, List.not_mem_nil, or_false] at hx
    subst hx
    · exact ⟨(h.x1 rfl).2.2, (h.x1 rfl).2.1⟩
  · exact List.pairwise_singleton _ _

def chkM1 (md : Region.Mode) (ops : Array Oper) (F : Bool → Array Bool) (i1 c : Nat) (all : Bool) : Bool :=
  [false, true].all fun b1 =>
    !(Region.ready md ops (F b1)).isEmpty && (Region.ready md ops (F b1)).all fun i => (i == i1 && !b1) || (i == c && (!all || (b1)))
theorem chkM1_spec {md : Region.Mode} {ops : Array Oper} {F : Bool → Array Bool} {i1 c : Nat} {all : Bool} (h : chkM1 md ops F i1 c all = true) :
    ∀ b1, Region.ready md ops (F b1) ≠ [] ∧ ∀ i ∈ Region.ready md ops (F b1), (i = i1 ∧ b1 = false) ∨ (i = c ∧ (all = true → b1 = true)) := by
  have mb : ∀ b : Bool, b ∈ [false, true] := by intro b; cases b <;> simp
  intro b1
  have h1 := (List.all_eq_true.1 h b1 (mb b1))
  rw [Bool.and_eq_true] at h1
  refine ⟨fun e => ?_, fun i hi => ?_⟩
  · rw [e] at h1
    exact absurd h1.1 (by decide)
  · have h2 := List.all_eq_true.1 h1.2 i hi
    rw [Bool.or_eq_true] at h2
    rcases h2 with h2 | h2
    · simp only [Bool.and_eq_true, beq_iff_eq, Bool.not_eq_true'] at h2
      exact .inl h2
    · rw [Bool.and_eq_true, beq_iff_eq] at h2
      obtain ⟨rfl, h3⟩ := h2
      refine .inr ⟨rfl, fun ha => ?_⟩
      rw [ha] at h3
      simpa using h3

/-- one stage: the variables are made, or the operation c is carried out -/
theorem stage1 {P : Program} {md : Region.Mode} {ops : Array Oper} {Q : Exit → Act → World → Prop} {S : World → Prop} (W : World) (z : Array Value) (t : TypeId) (A : Value → Act) (F : Bool → Array Bool) (i1 c : Nat) (all : Bool)
    (hS : ∀ v, Gr W v → S v) (hchk : chkM1 md ops F i1 c all = true)
    (hF : ∀ b1, (F b1).setIfInBounds i1 true = F true)
    (new1 : ∀ q1 w (K : Act → World → Prop), K (A (.pointer (some ⟨w.heap.size, 0, none⟩))) (w.alloc (.cells z t (0, 0))) → wpOp P ops Q i1 K (A q1) w)
    (next : ∀ b1 q1 g1 w, M1 W z t A F b1 q1 g1 (F b1) (A q1) w → (all = true → b1 = true) → wpOp P ops Q c (fun a' w' => S w' ∧ Any P md ops Q S ((F b1).setIfInBounds c true) a' w') (A q1) w)
    {l : Array Bool} {a : Act} {w : World} (h : ∃ b1 q1 g1, M1 W z t A F b1 q1 g1 l a w) : Any P md ops Q S l a w := by
  refine any_stage (fun l a w => ∃ b1 q1 g1, M1 W z t A F b1 q1 g1 l a w) ?_ h
  rintro l a w ⟨b1, q1, g1, hM⟩
  obtain ⟨hl, ha, gr, x1⟩ := hM
  subst hl ha
  obtain ⟨hne, hr⟩ := chkM1_spec hchk b1
  have f1 := hF b1
  refine ⟨hne, fun i hi => ?_⟩
  rcases hr i hi with ⟨rfl, e⟩ | ⟨rfl, e⟩
  · have hg := (Gr.refl w).alloc (.cells z t (0, 0))
    exact new1 q1 w _ ⟨hS _ (gr.trans hg), .inl ⟨true, _, w.heap.size, ⟨f1, rfl, gr.trans hg, fun _ => ⟨rfl, gr.size, blk_new _ _⟩⟩⟩⟩
  · refine wpOp_mono (fun a' w' k => ⟨k.1, .inr k.2⟩) (next b1 q1 g1 w ⟨rfl, rfl, gr, x1⟩ e)
end Go.Proofs.Ytdekjbdkpchbjaa
