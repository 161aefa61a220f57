/-
  A region that draws its order: a condition that is held until one operation comes up, and is dropped behind it (loads ahead of a call, stores behind it).
-/
import Derived.Test.YthgchjdjacbcgaaFloat
namespace Go.Proofs.Ythgchjdjacbcgaa
open Go.RowKit
section
variable {P : Program} {md : Region.Mode} {ops : Array Oper} {Q : Exit → Act → World → Prop} {S : World → Prop} {c : Nat}
/-- whatever order is picked, S holds as long as operation c has not come up -/
def wpAnyC (P : Program) (md : Region.Mode) (ops : Array Oper) (Q : Exit → Act → World → Prop) (S : World → Prop) (c : Nat) : Nat → Array Bool → Act → World → Prop
  | 0, l, a, w => Region.ready md ops l = [] ∧ Q .normal a w
  | f + 1, l, a, w => (Region.ready md ops l = [] → Q .normal a w) ∧
      ∀ i ∈ Region.ready md ops l, wpOp P ops Q i (fun a' w' => ((l.setIfInBounds i true).getD c false = false → S w') ∧ wpAnyC P md ops Q S c f (l.setIfInBounds i true) a' w') a w
theorem wpAny_of_C : ∀ (f : Nat) (l : Array Bool) (a : Act) (w : World), wpAnyC P md ops Q S c f l a w → wpAny P md ops Q f l a w
  | 0, _, _, _, h => h
  | f + 1, _, _, _, h => ⟨h.1, fun i hi => wpOp_mono (fun a' w' h' => wpAny_of_C f _ a' w' h'.2) (h.2 i hi)⟩
theorem wpAnyC_free : ∀ (f : Nat) (l : Array Bool) (a : Act) (w : World), l.getD c false = true → wpAnyH P md ops Q (fun _ => True) f l a w → wpAnyC P md ops Q S c f l a w
  | 0, _, _, _, _, h => h
  | f + 1, l, _, _, hl, h => ⟨h.1, fun i hi => wpOp_mono (fun a' w' h' => ⟨fun e => (by rw [getD_set_true hl] at e; cases e), wpAnyC_free f _ a' w' (getD_set_true hl) h'.2⟩) (h.2 i hi)⟩
theorem wpAnyC_first {i : Nat} {oi oc : Oper} {v : Value} (hi : ops[i]? = some oi) (hsel : ∀ (j : Nat) (o : Oper) cs b, ops[j]? = some o → o.op ≠ .select cs b)
    (hQ : ∀ c a w, Q (.panic c) (a.put oi.dst v) w → Q (.panic c) a w) (hci : i ≠ c) (T : World → Prop) (hTS : ∀ w, S w → T w) (hoc : ops[c]? = some oc) (hT : (∀ w, T w) ∨ ∃ e ∈ oc.after, Region.binds md e = true ∧ e.on = i) :
    ∀ (fuel : Nat) (listed : Array Bool) (a : Act) (w : World),
      (∀ j oj, ops[j]? = some oj → j ≠ i → listed.getD j true = false → (∀ e ∈ oj.after, Region.binds md e = true → e.on ≠ i) → oi.apart ops oj = true) →
      i ∈ Region.ready md ops listed → YieldsIf P ops T oi v a → (listed.getD c false = false → S w) → ((∀ w, T w) ∨ listed.getD c false = false) →
      wpAnyC P md ops Q S c fuel (listed.setIfInBounds i true) (a.put oi.dst v) w → wpAnyC P md ops Q S c (fuel + 1) listed a w := by
  intro fuel
  have now : ∀ (l : Array Bool) (w : World), (l.getD c false = false → S w) → ((∀ w, T w) ∨ l.getD c false = false) → T w := fun l w hS hB => by
    rcases hB with h | h
    · exact h w
    · exact hTS w (hS h)
  induction fuel with
  | zero =>
    intro listed a w _ hr hy hS hB H
    refine ⟨fun h => (by rw [h] at hr; cases hr), fun j hj => ?_⟩
    by_cases hji : j = i
    · subst hji
      exact hy.wpOp hi (now _ _ hS hB) ⟨fun e => hS (by rw [getD_set_ne false hci] at e; exact e), H⟩
    · have := ready_mono hj hji
      rw [H.1] at this
      cases this
  | succ fuel ih =>
    intro listed a w hfree hr hy hS hB H
    refine ⟨fun h => (by rw [h] at hr; cases hr), fun j hj => ?_⟩
    by_cases hji : j = i
    · subst hji
      exact hy.wpOp hi (now _ _ hS hB) ⟨fun e => hS (by rw [getD_set_ne false hci] at e; exact e), H⟩
    · have h1 := H.2 j (ready_mono hj hji)
      obtain ⟨hjun, oj, hoj, hall⟩ := mem_ready.1 hj
      have hnot : ∀ e ∈ oj.after, Region.binds md e = true → e.on ≠ i := fun e he hb heq => by
        have h1 := hall e he hb
        have h0 := (mem_ready.1 hr).1
        rw [heq] at h1
        rcases Nat.lt_or_ge i listed.size with h' | h'
        · simp [h'] at h0 h1; rw [h0] at h1; cases h1
        · simp [Array.getElem?_eq_none h'] at h1
      have h2 := wpOp_putIf hoj (hfree j oj hoj hji hjun hnot) (fun cs b => hsel i oi cs b hi) (fun cs b => hsel j oj cs b hoj) hQ hy h1
      have hfree' : ∀ k ok, ops[k]? = some ok → k ≠ i → (listed.setIfInBounds j true).getD k true = false →
          (∀ e ∈ ok.after, Region.binds md e = true → e.on ≠ i) → oi.apart ops ok = true := fun k ok hk hki hun hno => by
        refine hfree k ok hk hki ?_ hno
        by_cases hjk : j = k
        · subst hjk; exact hjun
        · rw [getD_set_ne true hjk] at hun; exact hun
      refine wpOp_mono (fun a' w' h3 => ?_) h2
      have hS' : (listed.setIfInBounds j true).getD c false = false → S w' := fun e => by
        refine h3.2.1 ?_
        rw [Array.setIfInBounds_comm _ _ (Ne.symm hji), getD_set_ne false hci]
        exact e
      have hB' : (∀ w, T w) ∨ (listed.setIfInBounds j true).getD c false = false := by
        rcases hB with h | h
        · exact .inl h
        · rcases hT with h' | ⟨e, he, hb, heq⟩
          · exact .inl h'
          · refine .inr ?_
            have hjc : j ≠ c := by
              rintro rfl
              rw [hoj] at hoc
              cases hoc
              exact hnot e he hb heq
            rw [getD_set_ne false hjc]
            exact h
      refine ⟨hS', ih (listed.setIfInBounds j true) a' w' hfree' (ready_mono hr (Ne.symm hji)) h3.1 hS' hB' ?_⟩
      rw [Array.setIfInBounds_comm _ _ hji]
      exact h3.2.2
/-- what is left, in whatever order -/
def AnyC (P : Program) (md : Region.Mode) (ops : Array Oper) (Q : Exit → Act → World → Prop) (S : World → Prop) (c : Nat) (l : Array Bool) (a : Act) (w : World) : Prop :=
  ∀ fuel, (l.toList.filter (!·)).length ≤ fuel → wpAnyC P md ops Q S c fuel l a w
theorem anyC_start {id : Nat} {a : Act} {w : World} (c : Nat) (S : World → Prop) (hm : P.follows .mixedOrders = true) (h : AnyC P .any ops Q S c (Array.replicate ops.size false) a w.drew) : (Code.region id ops true).wp P Q a w := by
  refine wp_region_any hm (wpAny_of_C _ _ _ _ (h ops.size ?_))
  simp
def depB (md : Region.Mode) (ops : Array Oper) (c i : Nat) : Bool := ((ops[c]?).map (·.after.any fun e => Region.binds md e && e.on == i)).getD false
theorem anyC_take {i : Nat} {oi : Oper} {v : Value} {l : Array Bool} {a : Act} {w : World} (T : World → Prop) (hTS : ∀ w, S w → T w) (hT : (∀ w, T w) ∨ depB md ops c i = true) (hi : ops[i]? = some oi)
    (hs : Region.noSelect ops = true) (hf : Region.free md ops l i = true) (hr : rdB md ops l i = true) (hci : i ≠ c) (hl : l.getD c true = false) (hc : c < ops.size)
    (hQ : ∀ c a w, Q (.panic c) (a.put oi.dst v) w → Q (.panic c) a w) (hy : YieldsIf P ops T oi v a) (hS : S w)
    (h : AnyC P md ops Q S c (l.setIfInBounds i true) (a.put oi.dst v) w) : AnyC P md ops Q S c l a w := by
  intro fuel hfu
  have hm := rdB_mem hr
  have h1 := left_of (mem_ready.1 hm).1
  obtain ⟨f, rfl⟩ : ∃ f, fuel = f + 1 := ⟨fuel - 1, by omega⟩
  have hlc : l.getD c false = false := by
    rcases Nat.lt_or_ge c l.size with h' | h'
    · simp [h'] at hl ⊢
      exact hl
    · simp [Array.getElem?_eq_none h']
  refine wpAnyC_first hi (Region.noSelect_spec hs) hQ hci T hTS (Array.getElem?_eq_getElem hc) ?_ f l a w (Region.free_spec hi hf) hm hy (fun _ => hS) (.inr hlc) (h f (by omega))
  rcases hT with h | h
  · exact .inl h
  · refine .inr ?_
    unfold depB at h
    rw [Array.getElem?_eq_getElem hc] at h
    simp only [Option.map_some, Option.getD_some, Array.any_eq_true'] at h
    obtain ⟨e, he, h⟩ := h
    rw [Bool.and_eq_true] at h
    exact ⟨e, he, h.1, by simpa using h.2⟩
/-- nothing but c is left to come up: S is dropped behind it -/
theorem anyC_last {o : Oper} {l : Array Bool} {a : Act} {w : World} (hr : Region.ready md ops l = [c]) (ho : ops[c]? = some o)
    (h : ∀ K' : Act → World → Prop, Shut (∀ a w, Any P md ops Q (fun _ => True) (l.setIfInBounds c true) a w → K' a w) → if Region.wanted o (yielded ops a.tmps) = true then Oper.wp P o a w K' Q else K' (a.put o.dst undef) w) : AnyC P md ops Q S c l a w := by
  intro fuel hfu
  have hm : c ∈ Region.ready md ops l := by rw [hr]; exact List.mem_cons_self
  have h1 := left_of (mem_ready.1 hm).1
  obtain ⟨f, rfl⟩ : ∃ f, fuel = f + 1 := ⟨fuel - 1, by omega⟩
  have hsz : c < l.size := by
    rcases Nat.lt_or_ge c l.size with h' | h'
    · exact h'
    · have := (mem_ready.1 hm).1
      simp [Array.getElem?_eq_none h'] at this
  have hlc : (l.setIfInBounds c true).getD c false = true := by simp [hsz]
  refine ⟨fun h => (by rw [h] at hr; cases hr), fun j hj => ?_⟩
  rw [hr] at hj
  obtain rfl : j = c := by simpa using hj
  refine wpOp_step ho (fun K' hK => h K' (fun a w hA => hK a w ⟨fun e => ?_, ?_⟩))
  · rw [hlc] at e
    cases e
  · exact wpAnyC_free f _ a w hlc (hA f (by omega))
end
section
variable {P : Program} {md : Region.Mode} {ops : Array Oper} {Q : Exit → Act → World → Prop} {S : World → Prop} {c : Nat}
/-- one operation is next, and it is not the one behind which S is dropped -/
theorem anyC_one {i : Nat} {o : Oper} {l : Array Bool} {a : Act} {w : World} (hr : Region.ready md ops l = [i]) (ho : ops[i]? = some o)
    (h : ∀ K' : Act → World → Prop, Shut (∀ a w, S w → (S w → AnyC P md ops Q S c (l.setIfInBounds i true) a w) → K' a w) → if Region.wanted o (yielded ops a.tmps) = true then Oper.wp P o a w K' Q else K' (a.put o.dst undef) w) : AnyC P md ops Q S c l a w := by
  intro fuel hfu
  have hm : i ∈ Region.ready md ops l := by rw [hr]; exact List.mem_cons_self
  have h1 := left_of (mem_ready.1 hm).1
  obtain ⟨f, rfl⟩ : ∃ f, fuel = f + 1 := ⟨fuel - 1, by omega⟩
  refine ⟨fun h => (by rw [h] at hr; cases hr), fun j hj => ?_⟩
  rw [hr] at hj
  obtain rfl : j = i := by simpa using hj
  exact wpOp_step ho (fun K' hK => h K' (fun a w hS hA => hK a w ⟨fun _ => hS, hA hS f (by omega)⟩))
/-- what holds of each state is kept, or what is left is shown -/
theorem anyC_stage (I : Array Bool → Act → World → Prop)
    (step : ∀ l a w, I l a w → Region.ready md ops l ≠ [] ∧ ∀ i ∈ Region.ready md ops l, wpOp P ops Q i (fun a' w' => S w' ∧ (I (l.setIfInBounds i true) a' w' ∨ AnyC P md ops Q S c (l.setIfInBounds i true) a' w')) a w)
    {l : Array Bool} {a : Act} {w : World} (h : I l a w) : AnyC P md ops Q S c l a w := by
  intro fuel
  induction fuel generalizing l a w with
  | zero =>
    intro hfu
    obtain ⟨hne, _⟩ := step l a w h
    obtain ⟨i, hi⟩ := List.exists_mem_of_ne_nil _ hne
    have := left_of (mem_ready.1 hi).1
    omega
  | succ f ih =>
    intro hfu
    obtain ⟨hne, hst⟩ := step l a w h
    refine ⟨fun e => absurd e hne, fun i hi => ?_⟩
    have h1 := left_of (mem_ready.1 hi).1
    refine wpOp_mono (fun a' w' k => ⟨fun _ => k.1, ?_⟩) (hst i hi)
    rcases k.2 with k | k
    · exact ih k (by omega)
    · exact k f (by omega)
theorem floatC (W : World) (T : Value → World → Prop) (A : Value → Act) (F : Bool → Array Bool) (i1 d : Nat) (all : Bool)
    (hS : ∀ v, Gr W v → S v) (hchk : chkM1 md ops F i1 d all = true) (hF : ∀ b1, (F b1).setIfInBounds i1 true = F true)
    (new1 : ∀ q w, Gr W w → ∀ K : Act → World → Prop, (∀ v w', Gr w w' → T v w' → K (A v) w') → wpOp P ops Q i1 K (A q) w)
    (next : ∀ b q w, Gr W w → (b = true → T q w) → (all = true → b = true) → wpOp P ops Q d (fun a' w' => S w' ∧ AnyC P md ops Q S c ((F b).setIfInBounds d true) a' w') (A q) w)
    {l : Array Bool} {a : Act} {w : World} (h : ∃ b q, l = F b ∧ a = A q ∧ Gr W w ∧ (b = true → T q w)) : AnyC P md ops Q S c l a w := by
  refine anyC_stage (fun l a w => ∃ b q, l = F b ∧ a = A q ∧ Gr W w ∧ (b = true → T q w)) ?_ h
  rintro l a w ⟨b, q, rfl, rfl, gr, hT⟩
  obtain ⟨hne, hr⟩ := chkM1_spec hchk b
  refine ⟨hne, fun i hi => ?_⟩
  rcases hr i hi with ⟨rfl, e⟩ | ⟨rfl, e⟩
  · exact new1 q w gr _ (fun v w' g t => ⟨hS _ (gr.trans g), .inl ⟨true, v, hF b, rfl, gr.trans g, fun _ => t⟩⟩)
  · exact wpOp_mono (fun a' w' k => ⟨k.1, .inr k.2⟩) (next b q w gr hT e)
theorem floatC_first (T : Value → World → Prop) (p : Nat) (F : Bool → Array Bool) (i1 d : Nat) (all : Bool) {l : Array Bool} {a : Act} {W : World} (hl : l = F false) (ha : fw1 a p (a.tmps.getD p undef) = a)
    (hS : ∀ v, Gr W v → S v) (hchk : chkM1 md ops F i1 d all = true) (hF : ∀ b1, (F b1).setIfInBounds i1 true = F true)
    (new1 : ∀ q w, Gr W w → ∀ K : Act → World → Prop, (∀ v w', Gr w w' → T v w' → K (fw1 a p v) w') → wpOp P ops Q i1 K (fw1 a p q) w)
    (next : ∀ b q w, Gr W w → (b = true → T q w) → (all = true → b = true) → wpOp P ops Q d (fun a' w' => S w' ∧ AnyC P md ops Q S c ((F b).setIfInBounds d true) a' w') (fw1 a p q) w) : AnyC P md ops Q S c l a W :=
  floatC W T (fw1 a p) F i1 d all hS hchk hF new1 next ⟨false, _, hl, ha.symm, Gr.refl W, fun e => by cases e⟩
theorem floatC_again (T : Value → World → Prop) (p : Nat) (F : Bool → Array Bool) (i1 d : Nat) (all : Bool) {b : Bool} {q : Value} {l : Array Bool} {a : Act} {W : World} (hl : l = F b) (ha : fw1 a p q = a) (hT : b = true → T q W)
    (hS : ∀ v, Gr W v → S v) (hchk : chkM1 md ops F i1 d all = true) (hF : ∀ b1, (F b1).setIfInBounds i1 true = F true)
    (new1 : ∀ q w, Gr W w → ∀ K : Act → World → Prop, (∀ v w', Gr w w' → T v w' → K (fw1 a p v) w') → wpOp P ops Q i1 K (fw1 a p q) w)
    (next : ∀ b q w, Gr W w → (b = true → T q w) → (all = true → b = true) → wpOp P ops Q d (fun a' w' => S w' ∧ AnyC P md ops Q S c ((F b).setIfInBounds d true) a' w') (fw1 a p q) w) : AnyC P md ops Q S c l a W :=
  floatC W T (fw1 a p) F i1 d all hS hchk hF new1 next ⟨b, q, hl, ha.symm, Gr.refl W, hT⟩
end
end Go.Proofs.Ythgchjdjacbcgaa
