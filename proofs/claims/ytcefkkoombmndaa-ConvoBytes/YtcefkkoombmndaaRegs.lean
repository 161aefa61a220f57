/-
  A region that draws its order and in which variables are made beside calls: by what holds of each state, not order by order.
-/
import Derived.Test.YtcefkkoombmndaaBase
import Derived.Deep.RegionHeld
import Derived.Deep.DrawnRows
import Derived.Laws.Tables
import Derived.Laws.CopyOwn
namespace Go.Proofs.Ytcefkkoombmndaa
open Go.RowKit
set_option maxRecDepth 100000

theorem falses_set (l : List Bool) : ∀ i, l[i]? = some false → ((l.set i true).filter (!·)).length + 1 = (l.filter (!·)).length := by
  induction l with
  | nil => intro i h; simp at h
  | cons x l ih =>
    intro i h
    cases i with
    | zero => simp at h; subst h; simp
    | succ i =>
      have := ih i (by simpa using h)
      simp only [List.set_cons_succ, List.filter_cons]
      cases x <;> simp <;> omega

/-- What holds of each state that can be come to is kept by each operation: so whatever order is drawn, it holds at the end. -/
theorem wpAnyH_inv {P : Program} {md : Region.Mode} {ops : Array Oper} {Q : Exit → Act → World → Prop} {S : World → Prop} (I : Array Bool → Act → World → Prop)
    (done : ∀ l a w, I l a w → Region.ready md ops l = [] → Q .normal a w)
    (step : ∀ l a w, I l a w → ∀ i ∈ Region.ready md ops l, wpOp P ops Q i (fun a' w' => S w' ∧ I (l.setIfInBounds i true) a' w') a w) :
    ∀ fuel l a w, (l.toList.filter (!·)).length ≤ fuel → I l a w → wpAnyH P md ops Q S fuel l a w := by
  intro fuel
  induction fuel with
  | zero =>
    intro l a w hl hi
    have hr : Region.ready md ops l = [] := by
      rcases hq : Region.ready md ops l with _ | ⟨i, r⟩
      · rfl
      · have hm : i ∈ Region.ready md ops l := by rw [hq]; exact List.mem_cons_self
        have h1 := (mem_ready.1 hm).1
        have h2 : l.toList[i]? = some false := by
          rcases Nat.lt_or_ge i l.size with h | h
          · rw [Array.getElem?_toList, Array.getElem?_eq_getElem h]
            simp [Array.getD, h] at h1
            rw [h1]
          · simp [Array.getD, Nat.not_lt.2 h] at h1
        have := falses_set l.toList i h2
        omega
    exact ⟨hr, done l a w hi hr⟩
  | succ fuel ih =>
    intro l a w hl hi
    refine ⟨done l a w hi, fun i hm => wpOp_mono (fun a' w' h => ⟨h.1, ih _ _ _ ?_ h.2⟩) (step l a w hi i hm)⟩
    have h1 := (mem_ready.1 hm).1
    have h2 : l.toList[i]? = some false := by
      rcases Nat.lt_or_ge i l.size with h | h
      · rw [Array.getElem?_toList, Array.getElem?_eq_getElem h]
        simp [Array.getD, h] at h1
        rw [h1]
      · simp [Array.getD, Nat.not_lt.2 h] at h1
    have := falses_set l.toList i h2
    rw [Array.toList_setIfInBounds]
    omega

/-- a load of a whole row or struct, as one operation -/
theorem exec_row {P : Program} {op : Oper} {a : Act} (w : World) (ty : TypeId) (x : Operand) (ho : op.op = .load ty x)
    (b o : Nat) (hx : a.eval x = .pointer (some ⟨b, o, none⟩)) (cs : List Value) (d : TypeDesc) (h : w.rangeAt b o cs)
    (hu : P.underlying ty = some d) (hd : d.isRow = true) (hi : (P.info? ty).map (·.size) = some cs.length) : (execOp a.eval op).run P w = .ok (.value (.agg cs.toArray)) w := by
  unfold execOp
  simp only [ho, hx, Instr.loadAt, Instr.sureAddr, Sem.run_bind, Sem.run_pure, Result.andThen_ok, run_loadVar_mid w b o ty cs d h hu hd hi]
theorem range_row {v : World} {b : Nat} {L : List Value} {t : TypeId} (h : v.heap[b]? = some (.cells L.toArray t (0, 0))) : v.rangeAt b 0 L := by
  intro j x hj
  have : (L.toArray)[0 + j]? = some x := by simpa using hj
  exact cell_of h this
/-- a call by its contract, as one step of a region that draws its order -/
theorem step_callw {P : Program} {ops : Array Oper} {o : Oper} {a : Act} {w : World} {K : Act → World → Prop} {Q : Exit → Act → World → Prop} {E : Prop} (hw : Region.wanted o (yielded ops a.tmps) = true)
    (f : FuncId) (args : Array Value) (hrun : (execOp a.eval o).run P w = .ok (.enter f args) w) (hc : Calls P f args w fun e w' => ∃ v, e = .returned v ∧ K (a.put o.dst v) w') :
    if Region.wanted o (yielded ops a.tmps) = true then Oper.wp P o a w K Q else E := by
  rw [if_pos hw]
  unfold Oper.wp
  rw [hrun, Oper.upon_enter]
  refine hc.mono fun e w'' hh => ?_
  obtain ⟨v, rfl, hK⟩ := hh
  exact hK

/-- a variable of the region's own: where it lies -/
def Var (w0 : World) (n : Nat) (t : TypeId) (w : World) (q : Value) (g : Nat) : Prop := q = .pointer (some ⟨g, 0, none⟩) ∧ w0.heap.size ≤ g ∧ ∃ o : Array Value, o.size = n ∧ w.heap[g]? = some (.cells o t (0, 0))
theorem Var.gr {w0 u v : World} {n g : Nat} {t : TypeId} {q : Value} (h : Var w0 n t u q g) (k : Gr u v) : Var w0 n t v q g := by
  obtain ⟨h1, h2, o, h3, h4⟩ := h
  exact ⟨h1, h2, o, h3, k.blk h4⟩

/-- the states of 'x, y := f(..), g(..)' -/
structure D2 (w0 : World) (A : Value → Value → Value → Value → Act) (F : Bool → Bool → Bool → Bool → Bool → Bool → Array Bool) (R1 R2 : Array Value → Prop) (n1 n2 : Nat) (t1 t2 : TypeId)
    (b1 b2 b3 b4 b5 b6 : Bool) (v1 v2 q1 q2 : Value) (g1 g2 : Nat) (c1 c2 : Array Value) (l : Array Bool) (a : Act) (w : World) : Prop where
  hl : l = F b1 b2 b3 b4 b5 b6
  ha : a = A v1 v2 q1 q2
  gr : Gr w0 w
  r1 : b1 = true → v1 = .agg c1 ∧ R1 c1
  r2 : b2 = true → v2 = .agg c2 ∧ R2 c2
  x1 : b3 = true → Var w0 n1 t1 w q1 g1
  x2 : b4 = true → Var w0 n2 t2 w q2 g2
  ne : b3 = true → b4 = true → g1 ≠ g2
  s1 : b5 = true → b1 = true ∧ b3 = true ∧ w.heap[g1]? = some (.cells c1 t1 (0, 0))
  s2 : b6 = true → b2 = true ∧ b4 = true ∧ w.heap[g2]? = some (.cells c2 t2 (0, 0))

theorem Res.row {w v : World} {b n : Nat} {t : TypeId} (h : Res w b n t v) (cs : Array Value) (hs : cs.size = n) : Res w b n t (v.setRow b cs) := by
  obtain ⟨h1, h2, o, h3, h4⟩ := h
  exact ⟨below_setRow h1 h2 cs, h2, cs, hs, setRow_heap _ _ _ _ _ _ h4⟩
theorem Gr.row {a w : World} (h : Gr a w) (g : Nat) (hg : a.heap.size ≤ g) (cs : Array Value) : Gr a (w.setRow g cs) := below_setRow h hg cs

/-- what may come up, of all states -/
def chk2 (md : Region.Mode) (ops : Array Oper) (F : Bool → Bool → Bool → Bool → Bool → Bool → Array Bool) (i1 i2 i3 i4 i5 i6 : Nat) : Bool :=
  [false, true].all fun b1 => [false, true].all fun b2 => [false, true].all fun b3 => [false, true].all fun b4 => [false, true].all fun b5 => [false, true].all fun b6 =>
    ((Region.ready md ops (F b1 b2 b3 b4 b5 b6)).all fun i => (i == i1 && !b1) || (i == i2 && !b2) || (i == i3 && !b3) || (i == i4 && !b4) || (i == i5 && b1 && b2 && b3 && b4 && !b5) || (i == i6 && b1 && b2 && b3 && b4 && b5 && !b6)) && (!(Region.ready md ops (F b1 b2 b3 b4 b5 b6)).isEmpty || (b5 && b6))
theorem chk2_spec {md : Region.Mode} {ops : Array Oper} {F : Bool → Bool → Bool → Bool → Bool → Bool → Array Bool} {i1 i2 i3 i4 i5 i6 : Nat} (h : chk2 md ops F i1 i2 i3 i4 i5 i6 = true) :
    (∀ b1 b2 b3 b4 b5 b6, ∀ i ∈ Region.ready md ops (F b1 b2 b3 b4 b5 b6), (i = i1 ∧ b1 = false) ∨ (i = i2 ∧ b2 = false) ∨ (i = i3 ∧ b3 = false) ∨ (i = i4 ∧ b4 = false) ∨ (i = i5 ∧ b1 = true ∧ b2 = true ∧ b3 = true ∧ b4 = true ∧ b5 = false) ∨ (i = i6 ∧ b1 = true ∧ b2 = true ∧ b3 = true ∧ b4 = true ∧ b5 = true ∧ b6 = false)) ∧
    (∀ b1 b2 b3 b4 b5 b6, Region.ready md ops (F b1 b2 b3 b4 b5 b6) = [] → b5 = true ∧ b6 = true) := by
  have mb : ∀ b : Bool, b ∈ [false, true] := by intro b; cases b <;> simp
  have h1 : ∀ b1 b2 b3 b4 b5 b6, _ := fun b1 b2 b3 b4 b5 b6 => List.all_eq_true.1 (List.all_eq_true.1 (List.all_eq_true.1 (List.all_eq_true.1 (List.all_eq_true.1 (List.all_eq_true.1 h b1 (mb b1)) b2 (mb b2)) b3 (mb b3)) b4 (mb b4)) b5 (mb b5)) b6 (mb b6)
  constructor
  · intro b1 b2 b3 b4 b5 b6 i hi
    have h2 := List.all_eq_true.1 (Bool.and_eq_true_iff.1 (h1 b1 b2 b3 b4 b5 b6)).1 i hi
    simp only [Bool.or_eq_true, Bool.and_eq_true, beq_iff_eq, Bool.not_eq_true'] at h2
    rcases h2 with ((((h2 | h2) | h2) | h2) | h2) | h2
    · exact .inl h2
    · exact .inr (.inl h2)
    · exact .inr (.inr (.inl h2))
    · exact .inr (.inr (.inr (.inl h2)))
    · exact .inr (.inr (.inr (.inr (.inl ⟨h2.1.1.1.1.1, h2.1.1.1.1.2, h2.1.1.1.2, h2.1.1.2, h2.1.2, h2.2⟩))))
    · exact .inr (.inr (.inr (.inr (.inr ⟨h2.1.1.1.1.1.1, h2.1.1.1.1.1.2, h2.1.1.1.1.2, h2.1.1.1.2, h2.1.1.2, h2.1.2, h2.2⟩))))
  · intro b1 b2 b3 b4 b5 b6 hi
    have h2 := (Bool.and_eq_true_iff.1 (h1 b1 b2 b3 b4 b5 b6)).2
    rw [hi] at h2
    simpa using h2

set_option maxHeartbeats 1000000 in
/-- 'x, y := f(..), g(..)', whatever order is drawn -/
theorem define2 {P : Program} {md : Region.Mode} {ops : Array Oper} {Q : Exit → Act → World → Prop} (w0 : World) (A : Value → Value → Value → Value → Act) (F : Bool → Bool → Bool → Bool → Bool → Bool → Array Bool)
    (R1 R2 : Array Value → Prop) (n1 n2 : Nat) (t1 t2 : TypeId) (z1 z2 : Array Value) (i1 i2 i3 i4 i5 i6 : Nat)
    (hz1 : z1.size = n1) (hz2 : z2.size = n2)
    (hR1 : ∀ c, R1 c → c.size = n1) (hR2 : ∀ c, R2 c → c.size = n2)
    (hchk : chk2 md ops F i1 i2 i3 i4 i5 i6 = true)
    (hF : ∀ b1 b2 b3 b4 b5 b6, (F b1 b2 b3 b4 b5 b6).setIfInBounds i1 true = F true b2 b3 b4 b5 b6 ∧ (F b1 b2 b3 b4 b5 b6).setIfInBounds i2 true = F b1 true b3 b4 b5 b6 ∧ (F b1 b2 b3 b4 b5 b6).setIfInBounds i3 true = F b1 b2 true b4 b5 b6 ∧ (F b1 b2 b3 b4 b5 b6).setIfInBounds i4 true = F b1 b2 b3 true b5 b6 ∧ (F b1 b2 b3 b4 b5 b6).setIfInBounds i5 true = F b1 b2 b3 b4 true b6 ∧ (F b1 b2 b3 b4 b5 b6).setIfInBounds i6 true = F b1 b2 b3 b4 b5 true)
    (call1 : ∀ v1 v2 q1 q2 w (K : Act → World → Prop), Gr w0 w → (∀ c w', R1 c → Gr w w' → K (A (.agg c) v2 q1 q2) w') → wpOp P ops Q i1 K (A v1 v2 q1 q2) w)
    (call2 : ∀ v1 v2 q1 q2 w (K : Act → World → Prop), Gr w0 w → (∀ c w', R2 c → Gr w w' → K (A v1 (.agg c) q1 q2) w') → wpOp P ops Q i2 K (A v1 v2 q1 q2) w)
    (new1 : ∀ v1 v2 q1 q2 w (K : Act → World → Prop), K (A v1 v2 (.pointer (some ⟨w.heap.size, 0, none⟩)) q2) (w.alloc (.cells z1 t1 (0, 0))) → wpOp P ops Q i3 K (A v1 v2 q1 q2) w)
    (new2 : ∀ v1 v2 q1 q2 w (K : Act → World → Prop), K (A v1 v2 q1 (.pointer (some ⟨w.heap.size, 0, none⟩))) (w.alloc (.cells z2 t2 (0, 0))) → wpOp P ops Q i4 K (A v1 v2 q1 q2) w)
    (put1 : ∀ c v2 g q2 w o (K : Act → World → Prop), w.heap[g]? = some (.cells o t1 (0, 0)) → o.size = n1 → R1 c → K (A (.agg c) v2 (.pointer (some ⟨g, 0, none⟩)) q2) (w.setRow g c) → wpOp P ops Q i5 K (A (.agg c) v2 (.pointer (some ⟨g, 0, none⟩)) q2) w)
    (put2 : ∀ v1 c q1 g w o (K : Act → World → Prop), w.heap[g]? = some (.cells o t2 (0, 0)) → o.size = n2 → R2 c → K (A v1 (.agg c) q1 (.pointer (some ⟨g, 0, none⟩))) (w.setRow g c) → wpOp P ops Q i6 K (A v1 (.agg c) q1 (.pointer (some ⟨g, 0, none⟩))) w)
    (post : ∀ c1 c2 g1 g2 w, Gr w0 w → R1 c1 → R2 c2 → w0.heap.size ≤ g1 → w0.heap.size ≤ g2 → g1 ≠ g2 → w.heap[g1]? = some (.cells c1 t1 (0, 0)) → w.heap[g2]? = some (.cells c2 t2 (0, 0)) → Q .normal (A (.agg c1) (.agg c2) (.pointer (some ⟨g1, 0, none⟩)) (.pointer (some ⟨g2, 0, none⟩))) w)
    (fuel : Nat) (l : Array Bool) (a : Act) (w : World) (hfu : (l.toList.filter (!·)).length ≤ fuel)
    (h : ∃ b1 b2 b3 b4 b5 b6 v1 v2 q1 q2 g1 g2 c1 c2, D2 w0 A F R1 R2 n1 n2 t1 t2 b1 b2 b3 b4 b5 b6 v1 v2 q1 q2 g1 g2 c1 c2 l a w) : wpAnyH P md ops Q (fun v => Gr w0 v) fuel l a w := by
  obtain ⟨hr, hd⟩ := chk2_spec hchk
  refine wpAnyH_inv (fun l a w => ∃ b1 b2 b3 b4 b5 b6 v1 v2 q1 q2 g1 g2 c1 c2, D2 w0 A F R1 R2 n1 n2 t1 t2 b1 b2 b3 b4 b5 b6 v1 v2 q1 q2 g1 g2 c1 c2 l a w) ?_ ?_ fuel l a w hfu h
  · rintro l a w ⟨b1, b2, b3, b4, b5, b6, v1, v2, q1, q2, g1, g2, c1, c2, hl, ha, gr, r1, r2, x1, x2, ne, s1, s2⟩ hrd
    subst hl ha
    obtain ⟨rfl, rfl⟩ := hd _ _ _ _ _ _ hrd
    obtain ⟨rfl, rfl, k1⟩ := s1 rfl
    obtain ⟨rfl, rfl, k2⟩ := s2 rfl
    obtain ⟨rfl, k3⟩ := r1 rfl
    obtain ⟨rfl, k4⟩ := r2 rfl
    obtain ⟨rfl, k5, _⟩ := x1 rfl
    obtain ⟨rfl, k6, _⟩ := x2 rfl
    exact post c1 c2 g1 g2 w gr k3 k4 k5 k6 (ne rfl rfl) k1 k2
  · rintro l a w ⟨b1, b2, b3, b4, b5, b6, v1, v2, q1, q2, g1, g2, c1, c2, hl, ha, gr, r1, r2, x1, x2, ne, s1, s2⟩ i hi
    subst hl ha
    obtain ⟨f1, f2, f3, f4, f5, f6⟩ := hF b1 b2 b3 b4 b5 b6
    rcases hr b1 b2 b3 b4 b5 b6 i hi with ⟨rfl, e⟩ | ⟨rfl, e⟩ | ⟨rfl, e⟩ | ⟨rfl, e⟩ | ⟨rfl, e1, e2, e3, e4, e⟩ | ⟨rfl, e1, e2, e3, e4, e5, e⟩
    · refine call1 v1 v2 q1 q2 w _ gr (fun c w' hc hg => ⟨gr.trans hg, true, b2, b3, b4, b5, b6, _, v2, q1, q2, g1, g2, c, c2, f1, rfl, gr.trans hg, fun _ => ⟨rfl, hc⟩, r2, fun k => (x1 k).gr hg, fun k => (x2 k).gr hg, ne, ?_, fun k => ⟨(s2 k).1, (s2 k).2.1, hg.blk (s2 k).2.2⟩⟩)
      intro k
      have := (s1 k).1
      rw [e] at this
      cases this
    · refine call2 v1 v2 q1 q2 w _ gr (fun c w' hc hg => ⟨gr.trans hg, b1, true, b3, b4, b5, b6, v1, _, q1, q2, g1, g2, c1, c, f2, rfl, gr.trans hg, r1, fun _ => ⟨rfl, hc⟩, fun k => (x1 k).gr hg, fun k => (x2 k).gr hg, ne, fun k => ⟨(s1 k).1, (s1 k).2.1, hg.blk (s1 k).2.2⟩, ?_⟩)
      intro k
      have := (s2 k).1
      rw [e] at this
      cases this
    · have hg := (Gr.refl w).alloc (.cells z1 t1 (0, 0))
      refine new1 v1 v2 q1 q2 w _ ⟨gr.trans hg, b1, b2, true, b4, b5, b6, v1, v2, _, q2, w.heap.size, g2, c1, c2, f3, rfl, gr.trans hg, r1, r2, fun _ => ⟨rfl, gr.size, z1, hz1, blk_new _ _⟩, fun k => (x2 k).gr hg, ?_, ?_, fun k => ⟨(s2 k).1, (s2 k).2.1, hg.blk (s2 k).2.2⟩⟩
      · intro _ k
        obtain ⟨_, _, o, _, h4⟩ := x2 k
        have := lt_of_block h4
        omega
      · intro k
        have := (s1 k).2.1
        rw [e] at this
        cases this
    · have hg := (Gr.refl w).alloc (.cells z2 t2 (0, 0))
      refine new2 v1 v2 q1 q2 w _ ⟨gr.trans hg, b1, b2, b3, true, b5, b6, v1, v2, q1, _, g1, w.heap.size, c1, c2, f4, rfl, gr.trans hg, r1, r2, fun k => (x1 k).gr hg, fun _ => ⟨rfl, gr.size, z2, hz2, blk_new _ _⟩, ?_, fun k => ⟨(s1 k).1, (s1 k).2.1, hg.blk (s1 k).2.2⟩, ?_⟩
      · intro k _
        obtain ⟨_, _, o, _, h4⟩ := x1 k
        have := lt_of_block h4
        omega
      · intro k
        have := (s2 k).2.1
        rw [e] at this
        cases this
    · subst e1 e2 e3 e4 e
      obtain ⟨rfl, k1⟩ := r1 rfl
      obtain ⟨rfl, k2, o, k3, k4⟩ := x1 rfl
      refine put1 c1 v2 g1 q2 w o _ k4 k3 k1 ⟨gr.row g1 k2 c1, true, true, true, true, true, b6, _, v2, _, q2, g1, g2, c1, c2, f5, rfl, gr.row g1 k2 c1, fun _ => ⟨rfl, k1⟩, r2, fun _ => ⟨rfl, k2, c1, hR1 _ k1, setRow_heap _ _ _ _ _ _ k4⟩, ?_, ne, fun _ => ⟨rfl, rfl, setRow_heap _ _ _ _ _ _ k4⟩, fun k => ⟨rfl, rfl, ?_⟩⟩
      · intro _
        obtain ⟨h1, h2, o', h3, h4⟩ := x2 rfl
        exact ⟨h1, h2, o', h3, (setRow_other w g1 g2 c1 (fun q => ne rfl rfl q.symm)).trans h4⟩
      · exact (setRow_other w g1 g2 c1 (fun q => ne rfl rfl q.symm)).trans (s2 k).2.2
    · subst e1 e2 e3 e4 e5 e
      obtain ⟨rfl, k1⟩ := r2 rfl
      obtain ⟨rfl, k2, o, k3, k4⟩ := x2 rfl
      refine put2 v1 c2 q1 g2 w o _ k4 k3 k1 ⟨gr.row g2 k2 c2, true, true, true, true, true, true, v1, _, q1, _, g1, g2, c1, c2, f6, rfl, gr.row g2 k2 c2, r1, fun _ => ⟨rfl, k1⟩, ?_, fun _ => ⟨rfl, k2, c2, hR2 _ k1, setRow_heap _ _ _ _ _ _ k4⟩, ne, fun k => ⟨rfl, rfl, ?_⟩, fun _ => ⟨rfl, rfl, setRow_heap _ _ _ _ _ _ k4⟩⟩
      · intro _
        obtain ⟨h1, h2, o', h3, h4⟩ := x1 rfl
        exact ⟨h1, h2, o', h3, (setRow_other w g2 g1 c2 (fun q => ne rfl rfl q)).trans h4⟩
      · exact (setRow_other w g2 g1 c2 (fun q => ne rfl rfl q)).trans (s1 k).2.2

theorem put_self (a : Act) (d : Nat) : a.put (some d) (a.tmps.getD d undef) = a := by
  cases a with
  | mk tm de =>
    simp only [Act.put]
    congr 1
    apply Array.ext_getElem?
    intro i
    rw [Array.getElem?_setIfInBounds]
    split
    · rename_i e
      subst e
      split
      · rename_i h
        simp
      · rename_i h
        rw [Array.getElem?_eq_none (by omega)]
    · rfl

/-- the frame of 'x, y := f(..), g(..)' -/
def fr2 (a : Act) (d1 d2 d3 d4 : Nat) (v1 v2 q1 q2 : Value) : Act := (((a.put (some d1) v1).put (some d2) v2).put (some d3) q1).put (some d4) q2
theorem fr2_self (a : Act) (d1 d2 d3 d4 : Nat) : a = fr2 a d1 d2 d3 d4 (a.tmps.getD d1 undef) (a.tmps.getD d2 undef) (a.tmps.getD d3 undef) (a.tmps.getD d4 undef) := by
  unfold fr2
  rw [put_self, put_self, put_self, put_self]
theorem d2_start (w0 : World) (a : Act) (d1 d2 d3 d4 : Nat) (F : Bool → Bool → Bool → Bool → Bool → Bool → Array Bool) (R1 R2 : Array Value → Prop) (n1 n2 : Nat) (t1 t2 : TypeId) (l : Array Bool) (w : World) (hl : l = F false false false false false false) (hg : Gr w0 w) :
    ∃ b1 b2 b3 b4 b5 b6 v1 v2 q1 q2 g1 g2 c1 c2, D2 w0 (fr2 a d1 d2 d3 d4) F R1 R2 n1 n2 t1 t2 b1 b2 b3 b4 b5 b6 v1 v2 q1 q2 g1 g2 c1 c2 l a w :=
  ⟨false, false, false, false, false, false, _, _, _, _, 0, 0, #[], #[], hl, fr2_self a d1 d2 d3 d4, hg, (by intro h; cases h), (by intro h; cases h), (by intro h; cases h), (by intro h; cases h), (by intro h; cases h), (by intro h; cases h), (by intro h; cases h)⟩
/-- .. the first being known at the start -/
theorem d2_start1 (w0 : World) (a : Act) (d1 d2 d3 d4 : Nat) (F : Bool → Bool → Bool → Bool → Bool → Bool → Array Bool) (R1 R2 : Array Value → Prop) (n1 n2 : Nat) (t1 t2 : TypeId) (l : Array Bool) (w : World) (c1 : Array Value) (hl : l = F true false false false false false) (hg : Gr w0 w) (hv : a.tmps.getD d1 undef = .agg c1) (hr : R1 c1) :
    ∃ b1 b2 b3 b4 b5 b6 v1 v2 q1 q2 g1 g2 c1 c2, D2 w0 (fr2 a d1 d2 d3 d4) F R1 R2 n1 n2 t1 t2 b1 b2 b3 b4 b5 b6 v1 v2 q1 q2 g1 g2 c1 c2 l a w :=
  ⟨true, false, false, false, false, false, _, _, _, _, 0, 0, c1, #[], hl, fr2_self a d1 d2 d3 d4, hg, (fun _ => ⟨hv, hr⟩), (by intro h; cases h), (by intro h; cases h), (by intro h; cases h), (by intro _ h; cases h), (by intro h; cases h), (by intro h; cases h)⟩
end Go.Proofs.Ytcefkkoombmndaa
