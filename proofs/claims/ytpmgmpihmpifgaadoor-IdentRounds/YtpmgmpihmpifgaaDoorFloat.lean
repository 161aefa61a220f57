/-
  An operation that floats among a region's chain: it is carried out at some time, and what it makes stays as it is while the world grows.
-/
import Derived.Test.YtpmgmpihmpifgaaDoorShaLaid
namespace Go.Proofs.YtpmgmpihmpifgaaDoor
open Go.RowKit
set_option maxRecDepth 100000

section
variable {P : Program} {md : Region.Mode} {ops : Array Oper} {Q : Exit → Act → World → Prop} {S : World → Prop}
theorem float1 (W : World) (T : Value → World → Prop) (A : Value → Act) (F : Bool → Array Bool) (i1 c : Nat) (all : Bool)
    (hS : ∀ v, Gr W v → S v) (hchk : chkM1 md ops F i1 c all = true) (hF : ∀ b1, (F b1).setIfInBounds i1 true = F true)
    (new1 : ∀ q w, Gr W w → ∀ K : Act → World → Prop, (∀ v w', Gr w w' → T v w' → K (A v) w') → wpOp P ops Q i1 K (A q) w)
    (next : ∀ b q w, Gr W w → (b = true → T q w) → (all = true → b = true) → wpOp P ops Q c (fun a' w' => S w' ∧ Any P md ops Q S ((F b).setIfInBounds c true) a' w') (A q) w)
    {l : Array Bool} {a : Act} {w : World} (h : ∃ b q, l = F b ∧ a = A q ∧ Gr W w ∧ (b = true → T q w)) : Any P md ops Q S l a w := by
  refine any_stage (fun l a w => ∃ b q, l = F b ∧ a = A q ∧ Gr W w ∧ (b = true → T q w)) ?_ h
  rintro l a w ⟨b, q, rfl, rfl, gr, hT⟩
  obtain ⟨hne, hr⟩ := chkM1_spec hchk b
  refine ⟨hne, fun i hi => ?_⟩
  rcases hr i hi with ⟨rfl, e⟩ | ⟨rfl, e⟩
  · exact new1 q w gr _ (fun v w' g t => ⟨hS _ (gr.trans g), .inl ⟨true, v, hF b, rfl, gr.trans g, fun _ => t⟩⟩)
  · exact wpOp_mono (fun a' w' k => ⟨k.1, .inr k.2⟩) (next b q w gr hT e)
/-- the first stage -/
theorem float_first (T : Value → World → Prop) (p : Nat) (F : Bool → Array Bool) (i1 c : Nat) (all : Bool) {l : Array Bool} {a : Act} {W : World} (hl : l = F false) (ha : fw1 a p (a.tmps.getD p undef) = a)
    (hS : ∀ v, Gr W v → S v) (hchk : chkM1 md ops F i1 c all = true) (hF : ∀ b1, (F b1).setIfInBounds i1 true = F true)
    (new1 : ∀ q w, Gr W w → ∀ K : Act → World → Prop, (∀ v w', Gr w w' → T v w' → K (fw1 a p v) w') → wpOp P ops Q i1 K (fw1 a p q) w)
    (next : ∀ b q w, Gr W w → (b = true → T q w) → (all = true → b = true) → wpOp P ops Q c (fun a' w' => S w' ∧ Any P md ops Q S ((F b).setIfInBounds c true) a' w') (fw1 a p q) w) : Any P md ops Q S l a W :=
  float1 W T (fw1 a p) F i1 c all hS hchk hF new1 next ⟨false, _, hl, ha.symm, Gr.refl W, fun e => by cases e⟩
/-- a later stage -/
theorem float_again (T : Value → World → Prop) (p : Nat) (F : Bool → Array Bool) (i1 c : Nat) (all : Bool) {b : Bool} {q : Value} {l : Array Bool} {a : Act} {W : World} (hl : l = F b) (ha : fw1 a p q = a) (hT : b = true → T q W)
    (hS : ∀ v, Gr W v → S v) (hchk : chkM1 md ops F i1 c all = true) (hF : ∀ b1, (F b1).setIfInBounds i1 true = F true)
    (new1 : ∀ q w, Gr W w → ∀ K : Act → World → Prop, (∀ v w', Gr w w' → T v w' → K (fw1 a p v) w') → wpOp P ops Q i1 K (fw1 a p q) w)
    (next : ∀ b q w, Gr W w → (b = true → T q w) → (all = true → b = true) → wpOp P ops Q c (fun a' w' => S w' ∧ Any P md ops Q S ((F b).setIfInBounds c true) a' w') (fw1 a p q) w) : Any P md ops Q S l a W :=
  float1 W T (fw1 a p) F i1 c all hS hchk hF new1 next ⟨b, q, hl, ha.symm, Gr.refl W, hT⟩
/-- an operation whose value and world are known -/
theorem step_val {o : Oper} {a : Act} {w : World} {K : Act → World → Prop} (v : Value) (w' : World) (hw : Region.wanted o (yielded ops a.tmps) = true) (hx : (execOp a.eval o).run P w = .ok (.value v) w') (h : K (a.put o.dst v) w') :
    if Region.wanted o (yielded ops a.tmps) = true then Oper.wp P o a w K Q else K (a.put o.dst undef) w := by
  rw [if_pos hw]
  unfold Oper.wp
  rw [hx]
  exact h
end
end Go.Proofs.YtpmgmpihmpifgaaDoor
