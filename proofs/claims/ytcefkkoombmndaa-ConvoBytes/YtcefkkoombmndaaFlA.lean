/-
  Regions that draw their order.
-/
import Derived.Test.YtcefkkoombmndaaMkA
import Derived.WalkMore
import Derived.Deep.Cut
import Derived.StillTailTactics
import Derived.OwnWalk
import Derived.Deep.QuietTactic
import Derived.BigQuiet
import Derived.Deep.MidRow
import Derived.Laws.IdiomCopy
import Derived.Deep.DeepAppendWide
import Derived.Deep.Strs
import Derived.Great.BuildSlice
import Derived.Laws.BytesArg
import Derived.ChangeKeysEq
import Derived.WideShapes
import Derived.Lib.SlBytesConst
import Derived.Laws.IdiomStrings
namespace Go.Proofs.Ytcefkkoombmndaa
open Go.RowKit
set_option maxRecDepth 100000
set_option linter.unusedSimpArgs false
set_option linter.unusedVariables false
section
variable {P : Program} {md : Region.Mode} {ops : Array Oper} {Q : Exit → Act → World → Prop} {S : World → Prop}
theorem float1 (W : World) (T : Value → World → Prop) (A : Value → Act) (F : Bool → Array Bool) (i1 c : Nat) (all : Bool)
    (hS : ∀ v, Gr W v → S v) (hchk : chkM1 md ops F i1 c all = true) (hF : ∀ b1, (F b1).setIfInBounds i1 true = F true)
    (new1 : ∀ q w, Gr W w → ∀ K : Act → World → Prop, (∀ v w', Gr w w' → T v w' → K (A v) w') → wpOp P ops Q i1 K (A q) w)
    (next : ∀ b q w, Gr W w → (b = true → T q w) → (all = true → b = true) → wpOp P ops Q c (fun a' w' => S w' ∧ Any P md ops Q S ((F b).setIfInBounds c true) a' w') (A q) w)
    {l : Array Bool} {a : Act} {w : World} (h : ∃ b q, l = F b ∧ a = A q ∧ Gr W w ∧ (b = true → T q w)) : Any P md ops Q S l a w := by
  refine any_stage (fun l a w => ∃ b q, l = F b ∧ a = A q ∧ Gr W w ∧ (b = true → T q w)) ?_ h
  rintro l a w ⟨b, q, rfl, rfl, gr, hT⟩
  obtain ⟨hne, hr⟩ := chkM1_spec hchk b
  refine ⟨hne, fun i hi => ?_⟩
  rcases hr i hi with ⟨rfl, e⟩ | ⟨rfl, e⟩
  · exact new1 q w gr _ (fun v w' g t => ⟨hS _ (gr.trans g), .inl ⟨true, v, hF b, rfl, gr.trans g, fun _ => t⟩⟩)
  · exact wpOp_mono (fun a' w' k => ⟨k.1, .inr k.2⟩) (next b q w gr hT e)
/-- the first stage -/
theorem float_first (T : Value → World → Prop) (p : Nat) (F : Bool → Array Bool) (i1 c : Nat) (all : Bool) {l : Array Bool} {a : Act} {W : World} (hl : l = F false) (ha : fw1 a p (a.tmps.getD p undef) = a)
    (hS : ∀ v, Gr W v → S v) (hchk : chkM1 md ops F i1 c all = true) (hF : ∀ b1, (F b1).setIfInBounds i1 true = F true)
    (new1 : ∀ q w, Gr W w → ∀ K : Act → World → Prop, (∀ v w', Gr w w' → T v w' → K (fw1 a p v) w') → wpOp P ops Q i1 K (fw1 a p q) w)
    (next : ∀ b q w, Gr W w → (b = true → T q w) → (all = true → b = true) → wpOp P ops Q c (fun a' w' => S w' ∧ Any P md ops Q S ((F b).setIfInBounds c true) a' w') (fw1 a p q) w) : Any P md ops Q S l a W :=
  float1 W T (fw1 a p) F i1 c all hS hchk hF new1 next ⟨false, _, hl, ha.symm, Gr.refl W, fun e => by cases e⟩
/-- a later stage -/
theorem float_again (T : Value → World → Prop) (p : Nat) (F : Bool → Array Bool) (i1 c : Nat) (all : Bool) {b : Bool} {q : Value} {l : Array Bool} {a : Act} {W : World} (hl : l = F b) (ha : fw1 a p q = a) (hT : b = true → T q W)
    (hS : ∀ v, Gr W v → S v) (hchk : chkM1 md ops F i1 c all = true) (hF : ∀ b1, (F b1).setIfInBounds i1 true = F true)
    (new1 : ∀ q w, Gr W w → ∀ K : Act → World → Prop, (∀ v w', Gr w w' → T v w' → K (fw1 a p v) w') → wpOp P ops Q i1 K (fw1 a p q) w)
    (next : ∀ b q w, Gr W w → (b = true → T q w) → (all = true → b = true) → wpOp P ops Q c (fun a' w' => S w' ∧ Any P md ops Q S ((F b).setIfInBounds c true) a' w') (fw1 a p q) w) : Any P md ops Q S l a W :=
  float1 W T (fw1 a p) F i1 c all hS hchk hF new1 next ⟨b, q, hl, ha.symm, Gr.refl W, hT⟩
/-- an operation whose value and world are known -/
theorem step_val {o : Oper} {a : Act} {w : World} {K : Act → World → Prop} (v : Value) (w' : World) (hw : Region.wanted o (yielded ops a.tmps) = true) (hx : (execOp a.eval o).run P w = .ok (.value v) w') (h : K (a.put o.dst v) w') :
    if Region.wanted o (yielded ops a.tmps) = true then Oper.wp P o a w K Q else K (a.put o.dst undef) w := by
  rw [if_pos hw]
  unfold Oper.wp
  rw [hx]
  exact h
end
section
variable {P : Program} {md : Region.Mode} {ops : Array Oper} {Q : Exit → Act → World → Prop} {S : World → Prop} {c : Nat}
/-- whatever order is picked, S holds as long as operation c has not come up -/
def wpAnyC (P : Program) (md : Region.Mode) (ops : Array Oper) (Q : Exit → Act → World → Prop) (S : World → Prop) (c : Nat) : Nat → Array Bool → Act → World → Prop
  | 0, l, a, w => Region.ready md ops l = [] ∧ Q .normal a w
  | f + 1, l, a, w => (Region.ready md ops l = [] → Q .normal a w) ∧
      ∀ i ∈ Region.ready md ops l, wpOp P ops Q i (fun a' w' => ((l.setIfInBounds i true).getD c false = false → S w') ∧ wpAnyC P md ops Q S c f (l.setIfInBounds i true) a' w') a w
theorem wpAny_of_C : ∀ (f : Nat) (l : Array Bool) (a : Act) (w : World), wpAnyC P md ops Q S c f l a w → wpAny P md ops Q f l a w
  | 0, _, _, _, h => h
  | f + 1, _, _, _, h => ⟨h.1, fun i hi => wpOp_mono (fun a' w' h' => wpAny_of_C f _ a' w' h'.2) (h.2 i hi)⟩
theorem wpAnyC_free : ∀ (f : Nat) (l : Array Bool) (a : Act) (w : World), l.getD c false = true → wpAnyH P md ops Q (fun _ => True) f l a w → wpAnyC P md ops Q S c f l a w
  | 0, _, _, _, _, h => h
  | f + 1, l, _, _, hl, h => ⟨h.1, fun i hi => wpOp_mono (fun a' w' h' => ⟨fun e => (by rw [getD_set_true hl] at e; cases e), wpAnyC_free f _ a' w' (getD_set_true hl) h'.2⟩) (h.2 i hi)⟩
theorem wpAnyC_first {i : Nat} {oi oc : Oper} {v : Value} (hi : ops[i]? = some oi) (hsel : ∀ (j : Nat) (o : Oper) cs b, ops[j]? = some o → o.op ≠ .select cs b)
    (hQ : ∀ c a w, Q (.panic c) (a.put oi.dst v) w → Q (.panic c) a w) (hci : i ≠ c) (T : World → Prop) (hTS : ∀ w, S w → T w) (hoc : ops[c]? = some oc) (hT : (∀ w, T w) ∨ ∃ e ∈ oc.after, Region.binds md e = true ∧ e.on = i) :
    ∀ (fuel : Nat) (listed : Array Bool) (a : Act) (w : World),
      (∀ j oj, ops[j]? = some oj → j ≠ i → listed.getD j true = false → (∀ e ∈ oj.after, Region.binds md e = true → e.on ≠ i) → oi.apart ops oj = true) →
      i ∈ Region.ready md ops listed → YieldsIf P ops T oi v a → (listed.getD c false = false → S w) → ((∀ w, T w) ∨ listed.getD c false = false) →
      wpAnyC P md ops Q S c fuel (listed.setIfInBounds i true) (a.put oi.dst v) w → wpAnyC P md ops Q S c (fuel + 1) listed a w := by
  intro fuel
  have now : ∀ (l : Array Bool) (w : World), (l.getD c false = false → S w) → ((∀ w, T w) ∨ l.getD c false = false) → T w := fun l w hS hB => by
    rcases hB with h | h
    · exact h w
    · exact hTS w (hS h)
  induction fuel with
  | zero =>
    intro listed a w _ hr hy hS hB H
    refine ⟨fun h => (by rw [h] at hr; cases hr), fun j hj => ?_⟩
    by_cases hji : j = i
    · subst hji
      exact hy.wpOp hi (now _ _ hS hB) ⟨fun e => hS (by rw [getD_set_ne false hci] at e; exact e), H⟩
    · have := ready_mono hj hji
      rw [H.1] at this
      cases this
  | succ fuel ih =>
    intro listed a w hfree hr hy hS hB H
    refine ⟨fun h => (by rw [h] at hr; cases hr), fun j hj => ?_⟩
    by_cases hji : j = i
    · subst hji
      exact hy.wpOp hi (now _ _ hS hB) ⟨fun e => hS (by rw [getD_set_ne false hci] at e; exact e), H⟩
    · have h1 := H.2 j (ready_mono hj hji)
      obtain ⟨hjun, oj, hoj, hall⟩ := mem_ready.1 hj
      have hnot : ∀ e ∈ oj.after, Region.binds md e = true → e.on ≠ i := fun e he hb heq => by
        have h1 := hall e he hb
        have h0 := (mem_ready.1 hr).1
        rw [heq] at h1
        rcases Nat.lt_or_ge i listed.size with h' | h'
        · simp [h'] at h0 h1; rw [h0] at h1; cases h1
        · simp [Array.getElem?_eq_none h'] at h1
      have h2 := wpOp_putIf hoj (hfree j oj hoj hji hjun hnot) (fun cs b => hsel i oi cs b hi) (fun cs b => hsel j oj cs b hoj) hQ hy h1
      have hfree' : ∀ k ok, ops[k]? = some ok → k ≠ i → (listed.setIfInBounds j true).getD k true = false →
          (∀ e ∈ ok.after, Region.binds md e = true → e.on ≠ i) → oi.apart ops ok = true := fun k ok hk hki hun hno => by
        refine hfree k ok hk hki ?_ hno
        by_cases hjk : j = k
        · subst hjk; exact hjun
        · rw [getD_set_ne true hjk] at hun; exact hun
      refine wpOp_mono (fun a' w' h3 => ?_) h2
      have hS' : (listed.setIfInBounds j true).getD c false = false → S w' := fun e => by
        refine h3.2.1 ?_
        rw [Array.setIfInBounds_comm _ _ (Ne.symm hji), getD_set_ne false hci]
        exact e
      have hB' : (∀ w, T w) ∨ (listed.setIfInBounds j true).getD c false = false := by
        rcases hB with h | h
        · exact .inl h
        · rcases hT with h' | ⟨e, he, hb, heq⟩
          · exact .inl h'
          · refine .inr ?_
            have hjc : j ≠ c := by
              rintro rfl
              rw [hoj] at hoc
              cases hoc
              exact hnot e he hb heq
            rw [getD_set_ne false hjc]
            exact h
      refine ⟨hS', ih (listed.setIfInBounds j true) a' w' hfree' (ready_mono hr (Ne.symm hji)) h3.1 hS' hB' ?_⟩
      rw [Array.setIfInBounds_comm _ _ hji]
      exact h3.2.2
/-- what is left, in whatever order -/
def AnyC (P : Program) (md : Region.Mode) (ops : Array Oper) (Q : Exit → Act → World → Prop) (S : World → Prop) (c : Nat) (l : Array Bool) (a : Act) (w : World) : Prop :=
  ∀ fuel, (l.toList.filter (!·)).length ≤ fuel → wpAnyC P md ops Q S c fuel l a w
theorem anyC_start {id : Nat} {a : Act} {w : World} (c : Nat) (S : World → Prop) (hm : P.follows .mixedOrders = true) (h : AnyC P .any ops Q S c (Array.replicate ops.size false) a w.drew) : (Code.region id ops true).wp P Q a w := by
  refine wp_region_any hm (wpAny_of_C _ _ _ _ (h ops.size ?_))
  simp
def depB (md : Region.Mode) (ops : Array Oper) (c i : Nat) : Bool := ((ops[c]?).map (·.after.any fun e => Region.binds md e && e.on == i)).getD false
theorem anyC_take {i : Nat} {oi : Oper} {v : Value} {l : Array Bool} {a : Act} {w : World} (T : World → Prop) (hTS : ∀ w, S w → T w) (hT : (∀ w, T w) ∨ depB md ops c i = true) (hi : ops[i]? = some oi)
    (hs : Region.noSelect ops = true) (hf : Region.free md ops l i = true) (hr : rdB md ops l i = true) (hci : i ≠ c) (hl : l.getD c true = false) (hc : c < ops.size)
    (hQ : ∀ c a w, Q (.panic c) (a.put oi.dst v) w → Q (.panic c) a w) (hy : YieldsIf P ops T oi v a) (hS : S w)
    (h : AnyC P md ops Q S c (l.setIfInBounds i true) (a.put oi.dst v) w) : AnyC P md ops Q S c l a w := by
  intro fuel hfu
  have hm := rdB_mem hr
  have h1 := left_of (mem_ready.1 hm).1
  obtain ⟨f, rfl⟩ : ∃ f, fuel = f + 1 := ⟨fuel - 1, by omega⟩
  have hlc : l.getD c false = false := by
    rcases Nat.lt_or_ge c l.size with h' | h'
    · simp [h'] at hl ⊢
      exact hl
    · simp [Array.getElem?_eq_none h']
  refine wpAnyC_first hi (Region.noSelect_spec hs) hQ hci T hTS (Array.getElem?_eq_getElem hc) ?_ f l a w (Region.free_spec hi hf) hm hy (fun _ => hS) (.inr hlc) (h f (by omega))
  rcases hT with h | h
  · exact .inl h
  · refine .inr ?_
    unfold depB at h
    rw [Array.getElem?_eq_getElem hc] at h
    simp only [Option.map_some, Option.getD_some, Array.any_eq_true'] at h
    obtain ⟨e, he, h⟩ := h
    rw [Bool.and_eq_true] at h
    exact ⟨e, he, h.1, by simpa using h.2⟩
/-- nothing but c is left to come up: S is dropped behind it -/
theorem anyC_last {o : Oper} {l : Array Bool} {a : Act} {w : World} (hr : Region.ready md ops l = [c]) (ho : ops[c]? = some o)
    (h : ∀ K' : Act → World → Prop, Shut (∀ a w, Any P md ops Q (fun _ => True) (l.setIfInBounds c true) a w → K' a w) → if Region.wanted o (yielded ops a.tmps) = true then Oper.wp P o a w K' Q else K' (a.put o.dst undef) w) : AnyC P md ops Q S c l a w := by
  intro fuel hfu
  have hm : c ∈ Region.ready md ops l := by rw [hr]; exact List.mem_cons_self
  have h1 := left_of (mem_ready.1 hm).1
  obtain ⟨f, rfl⟩ : ∃ f, fuel = f + 1 := ⟨fuel - 1, by omega⟩
  have hsz : c < l.size := by
    rcases Nat.lt_or_ge c l.size with h' | h'
    · exact h'
    · have := (mem_ready.1 hm).1
      simp [Array.getElem?_eq_none h'] at this
  have hlc : (l.setIfInBounds c true).getD c false = true := by simp [hsz]
  refine ⟨fun h => (by rw [h] at hr; cases hr), fun j hj => ?_⟩
  rw [hr] at hj
  obtain rfl : j = c := by simpa using hj
  refine wpOp_step ho (fun K' hK => h K' (fun a w hA => hK a w ⟨fun e => ?_, ?_⟩))
  · rw [hlc] at e
    cases e
  · exact wpAnyC_free f _ a w hlc (hA f (by omega))
end
section
variable {P : Program} {md : Region.Mode} {ops : Array Oper} {Q : Exit → Act → World → Prop} {S : World → Prop} {c : Nat}
/-- one operation is next, and it is not the one behind which S is dropped -/
theorem anyC_one {i : Nat} {o : Oper} {l : Array Bool} {a : Act} {w : World} (hr : Region.ready md ops l = [i]) (ho : ops[i]? = some o)
    (h : ∀ K' : Act → World → Prop, Shut (∀ a w, S w → (S w → AnyC P md ops Q S c (l.setIfInBounds i true) a w) → K' a w) → if Region.wanted o (yielded ops a.tmps) = true then Oper.wp P o a w K' Q else K' (a.put o.dst undef) w) : AnyC P md ops Q S c l a w := by
  intro fuel hfu
  have hm : i ∈ Region.ready md ops l := by rw [hr]; exact List.mem_cons_self
  have h1 := left_of (mem_ready.1 hm).1
  obtain ⟨f, rfl⟩ : ∃ f, fuel = f + 1 := ⟨fuel - 1, by omega⟩
  refine ⟨fun h => (by rw [h] at hr; cases hr), fun j hj => ?_⟩
  rw [hr] at hj
  obtain rfl : j = i := by simpa using hj
  exact wpOp_step ho (fun K' hK => h K' (fun a w hS hA => hK a w ⟨fun _ => hS, hA hS f (by omega)⟩))
/-- what holds of each state is kept, or what is left is shown -/
theorem anyC_stage (I : Array Bool → Act → World → Prop)
    (step : ∀ l a w, I l a w → Region.ready md ops l ≠ [] ∧ ∀ i ∈ Region.ready md ops l, wpOp P ops Q i (fun a' w' => S w' ∧ (I (l.setIfInBounds i true) a' w' ∨ AnyC P md ops Q S c (l.setIfInBounds i true) a' w')) a w)
    {l : Array Bool} {a : Act} {w : World} (h : I l a w) : AnyC P md ops Q S c l a w := by
  intro fuel
  induction fuel generalizing l a w with
  | zero =>
    intro hfu
    obtain ⟨hne, _⟩ := step l a w h
    obtain ⟨i, hi⟩ := List.exists_mem_of_ne_nil _ hne
    have := left_of (mem_ready.1 hi).1
    omega
  | succ f ih =>
    intro hfu
    obtain ⟨hne, hst⟩ := step l a w h
    refine ⟨fun e => absurd e hne, fun i hi => ?_⟩
    have h1 := left_of (mem_ready.1 hi).1
    refine wpOp_mono (fun a' w' k => ⟨fun _ => k.1, ?_⟩) (hst i hi)
    rcases k.2 with k | k
    · exact ih k (by omega)
    · exact k f (by omega)
theorem floatC (W : World) (T : Value → World → Prop) (A : Value → Act) (F : Bool → Array Bool) (i1 d : Nat) (all : Bool)
    (hS : ∀ v, Gr W v → S v) (hchk : chkM1 md ops F i1 d all = true) (hF : ∀ b1, (F b1).setIfInBounds i1 true = F true)
    (new1 : ∀ q w, Gr W w → ∀ K : Act → World → Prop, (∀ v w', Gr w w' → T v w' → K (A v) w') → wpOp P ops Q i1 K (A q) w)
    (next : ∀ b q w, Gr W w → (b = true → T q w) → (all = true → b = true) → wpOp P ops Q d (fun a' w' => S w' ∧ AnyC P md ops Q S c ((F b).setIfInBounds d true) a' w') (A q) w)
    {l : Array Bool} {a : Act} {w : World} (h : ∃ b q, l = F b ∧ a = A q ∧ Gr W w ∧ (b = true → T q w)) : AnyC P md ops Q S c l a w := by
  refine anyC_stage (fun l a w => ∃ b q, l = F b ∧ a = A q ∧ Gr W w ∧ (b = true → T q w)) ?_ h
  rintro l a w ⟨b, q, rfl, rfl, gr, hT⟩
  obtain ⟨hne, hr⟩ := chkM1_spec hchk b
  refine ⟨hne, fun i hi => ?_⟩
  rcases hr i hi with ⟨rfl, e⟩ | ⟨rfl, e⟩
  · exact new1 q w gr _ (fun v w' g t => ⟨hS _ (gr.trans g), .inl ⟨true, v, hF b, rfl, gr.trans g, fun _ => t⟩⟩)
  · exact wpOp_mono (fun a' w' k => ⟨k.1, .inr k.2⟩) (next b q w gr hT e)
theorem floatC_first (T : Value → World → Prop) (p : Nat) (F : Bool → Array Bool) (i1 d : Nat) (all : Bool) {l : Array Bool} {a : Act} {W : World} (hl : l = F false) (ha : fw1 a p (a.tmps.getD p undef) = a)
    (hS : ∀ v, Gr W v → S v) (hchk : chkM1 md ops F i1 d all = true) (hF : ∀ b1, (F b1).setIfInBounds i1 true = F true)
    (new1 : ∀ q w, Gr W w → ∀ K : Act → World → Prop, (∀ v w', Gr w w' → T v w' → K (fw1 a p v) w') → wpOp P ops Q i1 K (fw1 a p q) w)
    (next : ∀ b q w, Gr W w → (b = true → T q w) → (all = true → b = true) → wpOp P ops Q d (fun a' w' => S w' ∧ AnyC P md ops Q S c ((F b).setIfInBounds d true) a' w') (fw1 a p q) w) : AnyC P md ops Q S c l a W :=
  floatC W T (fw1 a p) F i1 d all hS hchk hF new1 next ⟨false, _, hl, ha.symm, Gr.refl W, fun e => by cases e⟩
theorem floatC_again (T : Value → World → Prop) (p : Nat) (F : Bool → Array Bool) (i1 d : Nat) (all : Bool) {b : Bool} {q : Value} {l : Array Bool} {a : Act} {W : World} (hl : l = F b) (ha : fw1 a p q = a) (hT : b = true → T q W)
    (hS : ∀ v, Gr W v → S v) (hchk : chkM1 md ops F i1 d all = true) (hF : ∀ b1, (F b1).setIfInBounds i1 true = F true)
    (new1 : ∀ q w, Gr W w → ∀ K : Act → World → Prop, (∀ v w', Gr w w' → T v w' → K (fw1 a p v) w') → wpOp P ops Q i1 K (fw1 a p q) w)
    (next : ∀ b q w, Gr W w → (b = true → T q w) → (all = true → b = true) → wpOp P ops Q d (fun a' w' => S w' ∧ AnyC P md ops Q S c ((F b).setIfInBounds d true) a' w') (fw1 a p q) w) : AnyC P md ops Q S c l a W :=
  floatC W T (fw1 a p) F i1 d all hS hchk hF new1 next ⟨b, q, hl, ha.symm, Gr.refl W, hT⟩
end
section
variable {P : Program} {md : Region.Mode} {Q : Exit → Act → World → Prop}
/-- the act behind those operations of the list that have come up -/
def putF : List Oper → Nat → (Nat → Value) → (Nat → Bool) → Act → Act
  | [], _, _, _, a => a
  | o :: r, i, f, l, a => putF r (i + 1) f l (if l i then a.put o.dst (f i) else a)
/-- no destination is one of these -/
def noD (d : Option Tmp) (r : List Oper) : Bool := r.all fun o => d.isNone || !(o.dst == d)
def distD : List Oper → Bool
  | [] => true
  | o :: r => noD o.dst r && distD r
def updF {α : Type} (f : Nat → α) (i : Nat) (v : α) : Nat → α := fun j => if j = i then v else f j
theorem noD_at {d : Option Tmp} {r : List Oper} (h : noD d r = true) {o : Oper} (ho : o ∈ r) : ∀ t, d = some t → o.dst ≠ some t := by
  intro t e
  subst e
  have h1 := List.all_eq_true.1 h o ho
  simpa using h1
theorem putF_congr : ∀ (r : List Oper) (i : Nat) (f g : Nat → Value) (l m : Nat → Bool) (a : Act), (∀ j, i ≤ j → f j = g j ∧ l j = m j) → putF r i f l a = putF r i g m a
  | [], _, _, _, _, _, _, _ => rfl
  | o :: r, i, f, g, l, m, a, h => by
    unfold putF
    rw [(h i (Nat.le_refl _)).1, (h i (Nat.le_refl _)).2]
    exact putF_congr r (i + 1) f g l m _ (fun j hj => h j (by omega))
theorem putF_put : ∀ (r : List Oper) (i : Nat) (f : Nat → Value) (l : Nat → Bool) (a : Act) (d : Option Tmp) (v : Value), noD d r = true → (putF r i f l a).put d v = putF r i f l (a.put d v)
  | [], _, _, _, _, _, _, _ => rfl
  | o :: r, i, f, l, a, d, v, h => by
    unfold putF
    have h2 : noD d r = true := by
      simp only [noD, List.all_cons, Bool.and_eq_true] at h
      exact h.2
    rw [putF_put r (i + 1) f l _ d v h2]
    by_cases hl : l i = true
    · rw [if_pos hl, if_pos hl, Act.put_comm]
      intro t e1 e2
      exact noD_at h List.mem_cons_self t e2 e1
    · rw [if_neg hl, if_neg hl]
theorem putF_set : ∀ (r : List Oper) (i j : Nat) (f : Nat → Value) (l : Nat → Bool) (a : Act) (o : Oper) (v : Value), distD r = true → r[j]? = some o → l (i + j) = false → (putF r i f l a).put o.dst v = putF r i (updF f (i + j) v) (updF l (i + j) true) a
  | [], _, _, _, _, _, _, _, _, h, _ => by cases h
  | o' :: r, i, 0, f, l, a, o, v, hd, ho, hl => by
    simp only [List.getElem?_cons_zero, Option.some.injEq] at ho
    subst ho
    simp only [distD, Bool.and_eq_true] at hd
    unfold putF
    simp only [Nat.add_zero] at hl ⊢
    rw [if_neg (by rw [hl]; decide), if_pos (by simp [updF]), putF_put r _ _ _ _ _ _ hd.1]
    have e : updF f i v i = v := by simp [updF]
    rw [e]
    refine putF_congr r _ _ _ _ _ _ (fun q hq => ?_)
    unfold updF
    rw [if_neg (by omega), if_neg (by omega)]
    exact ⟨rfl, rfl⟩
  | o' :: r, i, j + 1, f, l, a, o, v, hd, ho, hl => by
    simp only [List.getElem?_cons_succ] at ho
    simp only [distD, Bool.and_eq_true] at hd
    unfold putF
    have e : i + (j + 1) = i + 1 + j := by omega
    rw [e] at hl ⊢
    rw [putF_set r (i + 1) j f l _ o v hd.2 ho hl]
    have e1 : updF f (i + 1 + j) v i = f i := if_neg (by omega)
    have e2 : updF l (i + 1 + j) true i = l i := if_neg (by omega)
    rw [e1, e2]
theorem putF_tmps : ∀ (r : List Oper) (i : Nat) (f : Nat → Value) (l : Nat → Bool) (a : Act) (k : Nat), noD (some k) r = true → (putF r i f l a).tmps.getD k undef = a.tmps.getD k undef
  | [], _, _, _, _, _, _ => rfl
  | o :: r, i, f, l, a, k, h => by
    have h2 : noD (some k) r = true := by
      simp only [noD, List.all_cons, Bool.and_eq_true] at h
      exact h.2
    have h1 : o.dst ≠ some k := noD_at h List.mem_cons_self k rfl
    unfold putF
    rw [putF_tmps r (i + 1) f l _ k h2]
    by_cases hl : l i = true
    · rw [if_pos hl]
      unfold Act.put
      cases hd : o.dst with
      | none => rfl
      | some d =>
        have hne : d ≠ k := fun e => h1 (by rw [hd, e])
        simp [Array.getD_eq_getD_getElem?, Array.getElem?_setIfInBounds, hne]
    · rw [if_neg hl]
theorem putF_size : ∀ (r : List Oper) (i : Nat) (f : Nat → Value) (l : Nat → Bool) (a : Act), (putF r i f l a).tmps.size = a.tmps.size
  | [], _, _, _, _ => rfl
  | o :: r, i, f, l, a => by
    unfold putF
    rw [putF_size r]
    by_cases hl : l i = true
    · rw [if_pos hl]
      unfold Act.put
      cases o.dst <;> simp
    · rw [if_neg hl]
theorem putF_at : ∀ (r : List Oper) (i j : Nat) (f : Nat → Value) (l : Nat → Bool) (a : Act) (o : Oper) (k : Nat), distD r = true → r[j]? = some o → o.dst = some k → l (i + j) = true → k < a.tmps.size → (putF r i f l a).tmps.getD k undef = f (i + j)
  | [], _, _, _, _, _, _, _, _, h, _, _, _ => by cases h
  | o' :: r, i, 0, f, l, a, o, k, hd, ho, hk, hl, hs => by
    simp only [List.getElem?_cons_zero, Option.some.injEq] at ho
    subst ho
    simp only [distD, Bool.and_eq_true] at hd
    unfold putF
    rw [Nat.add_zero] at hl ⊢
    rw [hk] at hd
    rw [if_pos hl, putF_tmps r _ _ _ _ _ hd.1]
    unfold Act.put
    rw [hk]
    simp [Array.getD_eq_getD_getElem?, Array.getElem?_setIfInBounds, hs]
  | o' :: r, i, j + 1, f, l, a, o, k, hd, ho, hk, hl, hs => by
    simp only [List.getElem?_cons_succ] at ho
    simp only [distD, Bool.and_eq_true] at hd
    unfold putF
    have e : i + (j + 1) = i + 1 + j := by omega
    rw [e] at hl ⊢
    refine putF_at r (i + 1) j f l _ o k hd.2 ho hk hl ?_
    by_cases h9 : l i = true
    · rw [if_pos h9]
      unfold Act.put
      cases o'.dst <;> simpa using hs
    · rw [if_neg h9]
      exact hs
/-- operations wait for earlier ones alone -/
def earlier (md : Region.Mode) (r : List Oper) (i : Nat) : Bool :=
  match r with
  | [] => true
  | o :: r => (o.after.all fun e => !Region.binds md e || decide (e.on < i)) && earlier md r (i + 1)
theorem earlier_at : ∀ (r : List Oper) (i j : Nat) (o : Oper), earlier md r i = true → r[j]? = some o → ∀ e ∈ o.after, Region.binds md e = true → e.on < i + j
  | [], _, _, _, _, h => by cases h
  | o' :: r, i, 0, o, h, ho => by
    simp only [List.getElem?_cons_zero, Option.some.injEq] at ho
    subst ho
    simp only [earlier, Bool.and_eq_true] at h
    intro e he hb
    have h1 := Array.all_eq_true'.1 h.1 e he
    rw [hb] at h1
    simpa using h1
  | o' :: r, i, j + 1, o, h, ho => by
    simp only [List.getElem?_cons_succ] at ho
    simp only [earlier, Bool.and_eq_true] at h
    have := earlier_at r (i + 1) j o h.2 ho
    intro e he hb
    have := this e he hb
    omega
/-- what has come up, as a function -/
def upL (l : Array Bool) : Nat → Bool := fun i => l.getD i false
theorem up_set {l : Array Bool} {i : Nat} (h : i < l.size) : upL (l.setIfInBounds i true) = updF (upL l) i true := by
  funext j
  unfold upL updF
  by_cases e : j = i
  · subst e
    simp [Array.getD_eq_getD_getElem?, Array.getElem?_setIfInBounds, h]
  · rw [if_neg e]
    have e2 : ¬ i = j := fun e' => e e'.symm
    simp [Array.getD_eq_getD_getElem?, Array.getElem?_setIfInBounds, e2]
/-- those for which an operation waits have come up -/
def Pre (md : Region.Mode) (o : Oper) (l : Nat → Bool) : Prop := (o.after.all fun e => !Region.binds md e || l e.on) = true
/-- what has come up has waited for what it waits for -/
def Cls (L : List Oper) (l : Nat → Bool) : Prop := ∀ j o, L[j]? = some o → l j = true → Pre .any o l
theorem Pre.mono {o : Oper} {l : Nat → Bool} (h : Pre .any o l) (i : Nat) : Pre .any o (updF l i true) := by
  unfold Pre at *
  rw [Array.all_eq_true'] at *
  intro e he
  have h1 := h e he
  unfold updF
  split
  · simp
  · exact h1
theorem flow {id : Nat} {L : List Oper} {a : Act} {w : World} (J : (Nat → Bool) → (Nat → Value) → World → Prop) (hm : P.follows .mixedOrders = true) (hd : distD L = true) (he : earlier .any L 0 = true)
    (h0 : J (fun _ => false) (fun _ => undef) w.drew)
    (step : ∀ i o l f v, L[i]? = some o → l i = false → Pre .any o l → Cls L l → J l f v → ∀ K : Act → World → Prop, (∀ x v', J (updF l i true) (updF f i x) v' → K ((putF L 0 f l a).put o.dst x) v') → wpOp P L.toArray Q i K (putF L 0 f l a) v)
    (fin : ∀ l f v, (∀ i, i < L.length → l i = true) → J l f v → Q .normal (putF L 0 f (fun _ => true) a) v) : (Code.region id L.toArray true).wp P Q a w := by
  refine any_start (S := fun _ => True) hm ?_
  have key : ∀ (n : Nat) (l : Array Bool) (f : Nat → Value) (v : World), (l.toList.filter (!·)).length = n → l.size = L.length → Cls L (upL l) → J (upL l) f v → Any P .any L.toArray Q (fun _ => True) l (putF L 0 f (upL l) a) v := by
    intro n
    induction n with
    | zero =>
      intro l f v hn hs hcl hJ
      have hall : ∀ i, i < L.length → upL l i = true := by
        intro i hi
        unfold upL
        rw [Array.getD_eq_getD_getElem?, Array.getElem?_eq_getElem (by omega)]
        have hq : ∀ b ∈ l.toList, b = true := by
          intro b hb
          have := List.eq_nil_of_length_eq_zero hn
          rw [List.filter_eq_nil_iff] at this
          simpa using this b hb
        exact hq _ (by simp)
      have hr : Region.ready .any L.toArray l = [] := by
        unfold Region.ready
        rw [List.filter_eq_nil_iff]
        intro i hi
        rw [List.mem_range] at hi
        have := hall i (by simpa using hi)
        unfold upL at this
        rw [Array.getD_eq_getD_getElem?, Array.getElem?_eq_getElem (by simp at hi; omega)] at this
        simp at this
        simp [Array.getD_eq_getD_getElem?, show i < l.size by simp at hi; omega, this]
      refine any_done hr ?_
      have := fin (upL l) f v hall hJ
      have e : putF L 0 f (upL l) a = putF L 0 f (fun _ => true) a := by
        have h2 : ∀ (r : List Oper) (i : Nat) (a : Act), i + r.length = L.length → putF r i f (upL l) a = putF r i f (fun _ => true) a := by
          intro r
          induction r with
          | nil => intros; rfl
          | cons o r ih =>
            intro i a hi
            unfold putF
            rw [hall i (by simp at hi; omega)]
            exact ih (i + 1) _ (by simp at hi ⊢; omega)
        exact h2 L 0 a (by simp)
      rw [e]
      exact this
    | succ n ih =>
      intro l f v hn hs hcl hJ
      intro fuel hfu
      obtain ⟨fu, rfl⟩ : ∃ k, fuel = k + 1 := ⟨fuel - 1, by omega⟩
      have hex : ∃ i, i < L.length ∧ upL l i = false := by
        refine Classical.byContradiction fun hno => ?_
        have hall : ∀ b ∈ l.toList, b = true := by
          intro b hb
          obtain ⟨i, hi, rfl⟩ := List.getElem_of_mem hb
          cases hq : l.toList[i] with
          | true => rfl
          | false =>
            refine absurd ⟨i, by simp at hi; omega, ?_⟩ hno
            unfold upL
            rw [Array.getD_eq_getD_getElem?, ← Array.getElem?_toList, List.getElem?_eq_getElem hi, hq]
            rfl
        have : l.toList.filter (!·) = [] := by
          rw [List.filter_eq_nil_iff]
          intro b hb
          simp [hall b hb]
        rw [this] at hn
        cases hn
      have hne : Region.ready .any L.toArray l ≠ [] := by
        have hmin : ∃ i, (i < L.length ∧ upL l i = false) ∧ ∀ j, j < i → ¬ (j < L.length ∧ upL l j = false) := by
          obtain ⟨i, hi⟩ := hex
          induction i using Nat.strongRecOn with
          | _ i ihh =>
            by_cases hb : ∃ j, j < i ∧ (j < L.length ∧ upL l j = false)
            · obtain ⟨j, h1, h2⟩ := hb
              exact ihh j h1 h2
            · exact ⟨i, hi, fun j hj h => hb ⟨j, hj, h⟩⟩
        obtain ⟨i, ⟨hi1, hi2⟩, hlow⟩ := hmin
        intro hnil
        have hmem : i ∈ Region.ready .any L.toArray l := by
          unfold Region.ready
          rw [List.mem_filter, List.mem_range]
          refine ⟨by simpa using hi1, ?_⟩
          have g1 : l.getD i true = false := by
            unfold upL at hi2
            rw [Array.getD_eq_getD_getElem?, Array.getElem?_eq_getElem (by omega)] at hi2 ⊢
            exact hi2
          rw [g1]
          have g2 : L.toArray[i]? = some L[i] := by simp [hi1]
          rw [g2]
          simp only [Option.map_some, Option.getD_some, Bool.not_false, Bool.true_and]
          rw [Array.all_eq_true']
          intro e hee
          by_cases hb : Region.binds .any e = true
          · have hlt := earlier_at L 0 i L[i] he (by simp [hi1]) e hee hb
            have := hlow e.on (by omega)
            rw [hb]
            simp only [Bool.not_true, Bool.false_or]
            cases hx : l.getD e.on false with
            | true => rfl
            | false => exact absurd ⟨by omega, hx⟩ this
          · simp [hb]
        rw [hnil] at hmem
        cases hmem
      refine ⟨fun h => absurd h hne, fun i hi => ?_⟩
      obtain ⟨g1, o, g2, g3⟩ := mem_ready.1 hi
      have g4 : L[i]? = some o := by simpa using g2
      have hil : i < L.length := by
        rcases Nat.lt_or_ge i L.length with h | h
        · exact h
        · rw [List.getElem?_eq_none h] at g4
          cases g4
      have g5 : upL l i = false := by
        unfold upL
        rw [Array.getD_eq_getD_getElem?, Array.getElem?_eq_getElem (by omega)] at g1 ⊢
        exact g1
      have g6 : Pre .any o (upL l) := by
        unfold Pre
        rw [Array.all_eq_true']
        intro e hee
        unfold upL
        by_cases hb : Region.binds .any e = true
        · rw [hb]
          simpa using g3 e hee hb
        · simp [hb]
      refine step i o (upL l) f v g4 g5 g6 hcl hJ _ ?_
      · intro x v' hJ'
        refine ⟨trivial, ?_⟩
        have hcl' : Cls L (updF (upL l) i true) := by
          intro j o' hj hl
          by_cases e : j = i
          · subst e
            rw [g4] at hj
            cases hj
            exact g6.mono _
          · exact (hcl j o' hj (by unfold updF at hl; rw [if_neg e] at hl; exact hl)).mono _
        rw [← up_set (by omega)] at hcl'
        have e1 := putF_set L 0 i f (upL l) a o x hd g4 (by rw [Nat.zero_add]; exact g5)
        rw [Nat.zero_add, ← up_set (by omega)] at e1
        rw [e1]
        rw [← up_set (by omega)] at hJ'
        have hcount := left_of g1
        exact ih (l.setIfInBounds i true) _ v' (by omega) (by simpa using hs) hcl' hJ' fu (by omega)
  have hz : upL (Array.replicate L.toArray.size false) = fun _ => false := by
    funext i
    unfold upL
    by_cases h : i < L.length <;> simp [Array.getD_eq_getD_getElem?, Array.getElem?_replicate, h]
  have hk := key _ (Array.replicate L.toArray.size false) (fun _ => undef) w.drew rfl (by simp) (by rw [hz]; intro j o _ h; cases h) (by rw [hz]; exact h0)
  rw [hz] at hk
  have hp : ∀ (r : List Oper) (i : Nat) (a : Act), putF r i (fun _ => undef) (fun _ => false) a = a := by
    intro r
    induction r with
    | nil => intros; rfl
    | cons o r ih => intro i a; unfold putF; exact ih _ _
  rw [hp] at hk
  exact hk
/-- what an operand is -/
theorem ev_at {L : List Oper} {f : Nat → Value} {l : Nat → Bool} {a : Act} (j k : Nat) (o : Oper) (hd : distD L = true) (ho : L[j]? = some o) (hk : o.dst = some k) (hl : l j = true) (hs : k < a.tmps.size) : (putF L 0 f l a).eval (.tmp k) = f j := by
  have := putF_at L 0 j f l a o k hd ho hk (by rw [Nat.zero_add]; exact hl) hs
  rw [Nat.zero_add] at this
  exact this
theorem ev_off {L : List Oper} {f : Nat → Value} {l : Nat → Bool} {a : Act} (k : Nat) (h : noD (some k) L = true) : (putF L 0 f l a).eval (.tmp k) = a.eval (.tmp k) := putF_tmps L 0 f l a k h
theorem op_val {L : List Oper} {o : Oper} {i : Nat} {a : Act} {w w' : World} {K : Act → World → Prop} (x : Value) (ho : L[i]? = some o) (hg : o.guard = none) (hx : (execOp a.eval o).run P w = .ok (.value x) w') (h : K (a.put o.dst x) w') : wpOp P L.toArray Q i K a w := by
  unfold wpOp
  have : L.toArray[i]? = some o := by simpa using ho
  rw [this]
  dsimp only
  have hw : Region.wanted o (yielded L.toArray a.tmps) = true := by unfold Region.wanted; rw [hg]
  rw [if_pos hw]
  refine .inl ?_
  unfold Oper.wp
  rw [hx]
  exact h
theorem op_wp {L : List Oper} {o : Oper} {i : Nat} {a : Act} {w : World} {K : Act → World → Prop} (ho : L[i]? = some o) (hg : o.guard = none) (h : Oper.wp P o a w K Q) : wpOp P L.toArray Q i K a w := by
  unfold wpOp
  have : L.toArray[i]? = some o := by simpa using ho
  rw [this]
  dsimp only
  have hw : Region.wanted o (yielded L.toArray a.tmps) = true := by unfold Region.wanted; rw [hg]
  rw [if_pos hw]
  exact .inl h
theorem op_call {L : List Oper} {o : Oper} {i : Nat} {a : Act} {w : World} {K : Act → World → Prop} (fn : FuncId) (args : Array Value) (ho : L[i]? = some o) (hg : o.guard = none) (hx : (execOp a.eval o).run P w = .ok (.enter fn args) w) (hc : Calls P fn args w fun e w' => ∃ x, e = .returned x ∧ K (a.put o.dst x) w') : wpOp P L.toArray Q i K a w := by
  refine op_wp ho hg ?_
  unfold Oper.wp
  rw [hx]
  refine hc.mono ?_
  rintro e w' ⟨x, rfl, h⟩
  exact h
end
set_option linter.unusedVariables false
theorem pre_at {o : Oper} {l : Nat → Bool} (hp : Pre .any o l) (k : Nat) (hk : (o.after.any fun e => Region.binds .any e && e.on == k) = true) : l k = true := by
  obtain ⟨e, he, h⟩ := Array.any_eq_true'.1 hk
  rw [Bool.and_eq_true] at h
  have h2 := Array.all_eq_true'.1 hp e he
  rw [h.1] at h2
  have h3 : e.on = k := by simpa using h.2
  rw [h3] at h2
  simpa using h2
/-- the value of an operation, once its operands are known -/
theorem exec_by {a : Act} {o : Oper} {w : World} {r : Result Next} (s : Sem Next) (he : execOp a.eval o = s) (h : s.run Try.prog w = r) : (execOp a.eval o).run Try.prog w = r := by rw [he]; exact h
section
variable {P : Program} {md : Region.Mode} {ops : Array Oper} {Q : Exit → Act → World → Prop} {S : World → Prop}
/-- a stage: one of the two is carried out, or the chain's next operation; `all`: it waits for both -/
theorem float3 (J : Bool → Bool → Value → Value → World → Prop) (p1 p2 : Nat) (F : Bool → Bool → Array Bool) (i1 i2 c : Nat) (all : Bool) {b1 b2 : Bool} {q1 q2 : Value} {l : Array Bool} {a : Act} {W : World}
    (hl : l = F b1 b2) (ha : fw2 a p1 p2 q1 q2 = a) (hJ : J b1 b2 q1 q2 W)
    (hS : ∀ v, Gr W v → S v) (hchk : chkM2 md ops F i1 i2 c all = true) (hF1 : ∀ b1 b2, (F b1 b2).setIfInBounds i1 true = F true b2) (hF2 : ∀ b1 b2, (F b1 b2).setIfInBounds i2 true = F b1 true)
    (new1 : ∀ b2 q1 q2 w, Gr W w → J false b2 q1 q2 w → ∀ K : Act → World → Prop, (∀ v w', Gr w w' → J true b2 v q2 w' → K (fw2 a p1 p2 v q2) w') → wpOp P ops Q i1 K (fw2 a p1 p2 q1 q2) w)
    (new2 : ∀ b1 q1 q2 w, Gr W w → J b1 false q1 q2 w → ∀ K : Act → World → Prop, (∀ v w', Gr w w' → J b1 true q1 v w' → K (fw2 a p1 p2 q1 v) w') → wpOp P ops Q i2 K (fw2 a p1 p2 q1 q2) w)
    (next : ∀ b1 b2 q1 q2 w, Gr W w → J b1 b2 q1 q2 w → (all = true → b1 = true ∧ b2 = true) → wpOp P ops Q c (fun a' w' => S w' ∧ Any P md ops Q S ((F b1 b2).setIfInBounds c true) a' w') (fw2 a p1 p2 q1 q2) w) : Any P md ops Q S l a W := by
  refine any_stage (fun l a' w => ∃ b1 b2 q1 q2, l = F b1 b2 ∧ a' = fw2 a p1 p2 q1 q2 ∧ Gr W w ∧ J b1 b2 q1 q2 w) ?_ ⟨b1, b2, q1, q2, hl, ha.symm, Gr.refl W, hJ⟩
  rintro l a' w ⟨b1, b2, q1, q2, rfl, rfl, gr, hJ⟩
  obtain ⟨hne, hr⟩ := chkM2_spec hchk b1 b2
  refine ⟨hne, fun i hi => ?_⟩
  rcases hr i hi with ⟨rfl, rfl⟩ | ⟨rfl, rfl⟩ | ⟨rfl, e⟩
  · exact new1 b2 q1 q2 w gr hJ _ (fun v w' g t => ⟨hS _ (gr.trans g), .inl ⟨true, b2, v, q2, hF1 false b2, rfl, gr.trans g, t⟩⟩)
  · exact new2 b1 q1 q2 w gr hJ _ (fun v w' g t => ⟨hS _ (gr.trans g), .inl ⟨b1, true, q1, v, hF2 b1 false, rfl, gr.trans g, t⟩⟩)
  · exact wpOp_mono (fun a' w' k => ⟨k.1, .inr k.2⟩) (next b1 b2 q1 q2 w gr hJ e)
end
section
variable {P : Program} {md : Region.Mode} {ops : Array Oper} {Q : Exit → Act → World → Prop} {S : World → Prop}
/-- a load and a call, in whatever order -/
theorem any_pair {i j : Nat} {oi oj : Oper} {v : Value} {f : FuncId} {args : Array Value} {l : Array Bool} {a : Act} {w : World} (R : World → Prop) (T : Value → World → Prop)
    (hr1 : Region.ready md ops l = [i, j]) (hr2 : Region.ready md ops (l.setIfInBounds i true) = [j]) (hr3 : Region.ready md ops (l.setIfInBounds j true) = [i])
    (hoi : ops[i]? = some oi) (hoj : ops[j]? = some oj)
    (hw1 : Region.wanted oi (yielded ops a.tmps) = true) (hw2 : Region.wanted oj (yielded ops a.tmps) = true)
    (hw3 : Region.wanted oj (yielded ops (a.put oi.dst v).tmps) = true) (hw4 : ∀ r, Region.wanted oi (yielded ops (a.put oj.dst r).tmps) = true)
    (hl1 : ∀ w, R w → (execOp a.eval oi).run P w = .ok (.value v) w) (hl2 : ∀ r w, R w → (execOp (a.put oj.dst r).eval oi).run P w = .ok (.value v) w)
    (hc1 : ∀ w, (execOp a.eval oj).run P w = .ok (.enter f args) w) (hc2 : ∀ w, (execOp (a.put oi.dst v).eval oj).run P w = .ok (.enter f args) w)
    (hc : ∀ w, R w → Calls P f args w (fun e w' => ∃ r, e = .returned r ∧ R w' ∧ T r w')) (hRS : ∀ w, R w → S w) (hR : R w)
    (hcomm : ∀ r, (a.put oj.dst r).put oi.dst v = (a.put oi.dst v).put oj.dst r) (hlcomm : (l.setIfInBounds j true).setIfInBounds i true = (l.setIfInBounds i true).setIfInBounds j true)
    (hfin : ∀ r w', R w' → T r w' → Any P md ops Q S ((l.setIfInBounds i true).setIfInBounds j true) ((a.put oi.dst v).put oj.dst r) w') : Any P md ops Q S l a w := by
  intro fuel hfu
  have hm : i ∈ Region.ready md ops l := by rw [hr1]; exact List.mem_cons_self
  have hmj : j ∈ Region.ready md ops l := by rw [hr1]; exact List.mem_cons_of_mem _ List.mem_cons_self
  have h1 := left_of (mem_ready.1 hm).1
  have h2 := left_of (mem_ready.1 hmj).1
  obtain ⟨n, rfl⟩ : ∃ n, fuel = n + 1 := ⟨fuel - 1, by omega⟩
  refine wpAnyH_ready hr1 (by simp) (AllReadyH.cons hoi (fun K hK => ?_) (AllReadyH.cons hoj (fun K hK => ?_) AllReadyH.nil))
  · rw [if_pos hw1]
    unfold Oper.wp
    rw [hl1 w hR]
    refine hK.out _ _ (hRS w hR) (fun _ => ?_)
    refine any_one (S := S) hr2 hoj (fun K2 hK2 => ?_) n (by omega)
    refine step_callw hw3 f args (hc2 w) ((hc w hR).mono ?_)
    rintro e w' ⟨r, rfl, hR', hT⟩
    exact ⟨r, rfl, hK2.out _ _ (hRS w' hR') (fun _ => hfin r w' hR' hT)⟩
  · refine step_callw hw2 f args (hc1 w) ((hc w hR).mono ?_)
    rintro e w' ⟨r, rfl, hR', hT⟩
    refine ⟨r, rfl, hK.out _ _ (hRS w' hR') (fun _ => ?_)⟩
    refine any_one (S := S) hr3 hoi (fun K2 hK2 => ?_) n (by omega)
    rw [if_pos (hw4 r)]
    unfold Oper.wp
    rw [hl2 r w' hR']
    refine hK2.out _ _ (hRS w' hR') (fun _ => ?_)
    rw [hcomm r, hlcomm]
    exact hfin r w' hR' hT
end
end Go.Proofs.Ytcefkkoombmndaa
