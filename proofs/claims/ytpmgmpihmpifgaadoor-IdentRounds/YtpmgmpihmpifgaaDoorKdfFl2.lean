/-
  Two operations that float among a region's chain.
-/
import Derived.Test.YtpmgmpihmpifgaaDoorKdfCodesWalk
namespace Go.Proofs.YtpmgmpihmpifgaaDoor
open Go.RowKit
set_option maxRecDepth 100000

def chkF2 (md : Region.Mode) (ops : Array Oper) (F : Bool → Bool → Array Bool) (i1 i2 c : Nat) (all : Bool) : Bool :=
  [false, true].all fun b1 => [false, true].all fun b2 =>
    !(Region.ready md ops (F b1 b2)).isEmpty && (Region.ready md ops (F b1 b2)).all fun i => (i == i1 && !b1) || (i == i2 && !b2) || (i == c && (!all || b1))
theorem chkF2_spec {md : Region.Mode} {ops : Array Oper} {F : Bool → Bool → Array Bool} {i1 i2 c : Nat} {all : Bool} (h : chkF2 md ops F i1 i2 c all = true) :
    ∀ b1 b2, Region.ready md ops (F b1 b2) ≠ [] ∧ ∀ i ∈ Region.ready md ops (F b1 b2), (i = i1 ∧ b1 = false) ∨ (i = i2 ∧ b2 = false) ∨ (i = c ∧ (all = true → b1 = true)) := by
  have mb : ∀ b : Bool, b ∈ [false, true] := by intro b; cases b <;> simp
  intro b1 b2
  have h1 := (List.all_eq_true.1 (List.all_eq_true.1 h b1 (mb b1)) b2 (mb b2))
  rw [Bool.and_eq_true] at h1
  refine ⟨fun e => ?_, fun i hi => ?_⟩
  · rw [e] at h1
    exact absurd h1.1 (by decide)
  · have h2 := List.all_eq_true.1 h1.2 i hi
    rw [Bool.or_eq_true] at h2
    rcases h2 with h2 | h2
    · simp only [Bool.or_eq_true, Bool.and_eq_true, beq_iff_eq, Bool.not_eq_true'] at h2
      exact h2.elim .inl (fun h => .inr (.inl h))
    · rw [Bool.and_eq_true, beq_iff_eq] at h2
      obtain ⟨rfl, h3⟩ := h2
      refine .inr (.inr ⟨rfl, fun ha => ?_⟩)
      rw [ha] at h3
      simpa using h3
section
variable {P : Program} {md : Region.Mode} {ops : Array Oper} {Q : Exit → Act → World → Prop} {S : World → Prop}
/-- a stage: one of the two is carried out, or the chain's next operation; `all`: it waits for the first of the two -/
theorem float2 (T1 T2 : Value → World → Prop) (p1 p2 : Nat) (F : Bool → Bool → Array Bool) (i1 i2 c : Nat) (all : Bool) {b1 b2 : Bool} {q1 q2 : Value} {l : Array Bool} {a : Act} {W : World}
    (hl : l = F b1 b2) (ha : fw1 (fw1 a p1 q1) p2 q2 = a) (h1 : b1 = true → T1 q1 W) (h2 : b2 = true → T2 q2 W)
    (t1 : ∀ q u v, T1 q u → Gr u v → T1 q v) (t2 : ∀ q u v, T2 q u → Gr u v → T2 q v)
    (hS : ∀ v, Gr W v → S v) (hchk : chkF2 md ops F i1 i2 c all = true) (hF1 : ∀ b1 b2, (F b1 b2).setIfInBounds i1 true = F true b2) (hF2 : ∀ b1 b2, (F b1 b2).setIfInBounds i2 true = F b1 true)
    (new1 : ∀ q q2 w, Gr W w → ∀ K : Act → World → Prop, (∀ v w', Gr w w' → T1 v w' → K (fw1 (fw1 a p1 v) p2 q2) w') → wpOp P ops Q i1 K (fw1 (fw1 a p1 q) p2 q2) w)
    (new2 : ∀ q q2 w, Gr W w → ∀ K : Act → World → Prop, (∀ v w', Gr w w' → T2 v w' → K (fw1 (fw1 a p1 q) p2 v) w') → wpOp P ops Q i2 K (fw1 (fw1 a p1 q) p2 q2) w)
    (next : ∀ b1 b2 q1 q2 w, Gr W w → (b1 = true → T1 q1 w) → (b2 = true → T2 q2 w) → (all = true → b1 = true) → wpOp P ops Q c (fun a' w' => S w' ∧ Any P md ops Q S ((F b1 b2).setIfInBounds c true) a' w') (fw1 (fw1 a p1 q1) p2 q2) w) : Any P md ops Q S l a W := by
  refine any_stage (fun l a' w => ∃ b1 b2 q1 q2, l = F b1 b2 ∧ a' = fw1 (fw1 a p1 q1) p2 q2 ∧ Gr W w ∧ (b1 = true → T1 q1 w) ∧ (b2 = true → T2 q2 w)) ?_ ⟨b1, b2, q1, q2, hl, ha.symm, Gr.refl W, h1, h2⟩
  rintro l a' w ⟨b1, b2, q1, q2, rfl, rfl, gr, h1, h2⟩
  obtain ⟨hne, hr⟩ := chkF2_spec hchk b1 b2
  refine ⟨hne, fun i hi => ?_⟩
  rcases hr i hi with ⟨rfl, e⟩ | ⟨rfl, e⟩ | ⟨rfl, e⟩
  · exact new1 q1 q2 w gr _ (fun v w' g t => ⟨hS _ (gr.trans g), .inl ⟨true, b2, v, q2, hF1 b1 b2, rfl, gr.trans g, fun _ => t, fun e => t2 _ _ _ (h2 e) g⟩⟩)
  · exact new2 q1 q2 w gr _ (fun v w' g t => ⟨hS _ (gr.trans g), .inl ⟨b1, true, q1, v, hF2 b1 b2, rfl, gr.trans g, fun e => t1 _ _ _ (h1 e) g, fun _ => t⟩⟩)
  · exact wpOp_mono (fun a' w' k => ⟨k.1, .inr k.2⟩) (next b1 b2 q1 q2 w gr h1 h2 e)
end
end Go.Proofs.YtpmgmpihmpifgaaDoor
