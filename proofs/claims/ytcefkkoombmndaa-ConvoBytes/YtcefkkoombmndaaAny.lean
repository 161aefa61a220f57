/-
  Regions walked by rows: blocks of the call's own in a list; an order that is drawn, with no count of steps; variables that are made while calls go on.
-/
import Derived.Test.YtcefkkoombmndaaRegs
namespace Go.Proofs.Ytcefkkoombmndaa
open Go.RowKit
set_option maxRecDepth 100000

/-- a block: where, what it holds, of which type -/
structure Blk where
  g : Nat
  c : Array Value
  t : TypeId
def Blk.obj (x : Blk) : Obj := .cells x.c x.t (0, 0)
/-- Blocks of the call's own: the world has only grown since w, each block holds its cells, and no two are one. -/
structure Bl (w : World) (L : List Blk) (v : World) : Prop where
  gr : Gr w v
  at_ : ∀ x ∈ L, v.heap[x.g]? = some x.obj ∧ w.heap.size ≤ x.g
  ne : L.Pairwise (fun x y => x.g ≠ y.g)
theorem Bl.nil (w : World) : Bl w [] w := ⟨Gr.refl w, (fun _ h => by cases h), List.Pairwise.nil⟩
theorem Bl.more {w u v : World} {L : List Blk} (h : Bl w L u) (k : Gr u v) : Bl w L v := ⟨h.gr.trans k, fun x hx => ⟨k.blk (h.at_ x hx).1, (h.at_ x hx).2⟩, h.ne⟩
theorem Bl.drew {w v : World} {L : List Blk} (h : Bl w L v) : Bl w L v.drew := h.more (Gr.refl v).drew
theorem Bl.drewN {w v : World} {L : List Blk} (h : Bl w L v) (n : Nat) : Bl w L (v.drewN n) := h.more ((Gr.refl v).drewN n)
theorem Bl.get {w v : World} {L : List Blk} (h : Bl w L v) (i : Nat) {x : Blk} (hi : L[i]? = some x) : v.heap[x.g]? = some (.cells x.c x.t (0, 0)) := (h.at_ x (List.mem_of_getElem? hi)).1
theorem Bl.own {w v : World} {L : List Blk} (h : Bl w L v) (i : Nat) {x : Blk} (hi : L[i]? = some x) : w.heap.size ≤ x.g := (h.at_ x (List.mem_of_getElem? hi)).2
theorem Bl.set {w v : World} {L : List Blk} (h : Bl w L v) (i : Nat) {x : Blk} (hi : L[i]? = some x) (c : Array Value) : Bl w (L.set i ⟨x.g, c, x.t⟩) (v.setRow x.g c) := by
  have hx := h.get i hi
  have hn : ∀ j y, L[j]? = some y → j ≠ i → y.g ≠ x.g := by
    intro j y hj hji
    obtain ⟨hjl, rfl⟩ := List.getElem?_eq_some_iff.1 hj
    obtain ⟨hil, rfl⟩ := List.getElem?_eq_some_iff.1 hi
    rcases Nat.lt_or_gt_of_ne hji with hlt | hlt
    · exact List.pairwise_iff_getElem.1 h.ne j i hjl hil hlt
    · exact (List.pairwise_iff_getElem.1 h.ne i j hil hjl hlt).symm
  refine ⟨h.gr.row _ (h.own i hi) c, ?_, ?_⟩
  · intro y hy
    obtain ⟨j, hj⟩ := List.mem_iff_getElem?.1 hy
    by_cases hji : j = i
    · subst hji
      rw [List.getElem?_set_self' , hi] at hj
      simp at hj
      have ho := h.own j hi
      subst hj
      exact ⟨setRow_heap _ _ _ _ _ _ hx, ho⟩
    · rw [List.getElem?_set_ne (fun e => hji e.symm)] at hj
      exact ⟨(setRow_other _ _ _ _ (hn j y hj hji)).trans (h.get j hj), h.own j hj⟩
  · refine List.pairwise_iff_getElem.2 fun a b ha hb hab => ?_
    rw [List.length_set] at ha hb
    have h0 := List.pairwise_iff_getElem.1 h.ne a b ha hb hab
    obtain ⟨hil, rfl⟩ := List.getElem?_eq_some_iff.1 hi
    rw [List.getElem_set, List.getElem_set]
    split
    · rename_i e
      subst e
      split
      · omega
      · exact h0
    · split
      · rename_i e
        subst e
        exact h0
      · exact h0
theorem Bl.new {w v : World} {L : List Blk} (h : Bl w L v) (c : Array Value) (t : TypeId) : Bl w (L ++ [⟨v.heap.size, c, t⟩]) (v.alloc (.cells c t (0, 0))) := by
  have k := (Gr.refl v).alloc (.cells c t (0, 0))
  have hm := h.more k
  refine ⟨hm.gr, ?_, ?_⟩
  · intro x hx
    rcases List.mem_append.1 hx with hx | hx
    · exact hm.at_ x hx
    · have : x = ⟨v.heap.size, c, t⟩ := by simpa using hx
      subst this
      exact ⟨blk_new _ _, h.gr.size⟩
  · refine List.pairwise_append.2 ⟨h.ne, List.pairwise_singleton _ _, fun x hx y hy => ?_⟩
    have : y = ⟨v.heap.size, c, t⟩ := by simpa using hy
    subst this
    have := lt_of_block (h.at_ x hx).1
    show x.g ≠ v.heap.size
    omega
theorem Bl.to {w v : World} {L L' : List Blk} (h : Bl w L v) (e : L = L') : Bl w L' v := e ▸ h

theorem Bl.join {w W v : World} {L : List Blk} (h : Bl w L W) (k : Gr W v) (M : List Blk) (hm : ∀ x ∈ M, v.heap[x.g]? = some x.obj ∧ W.heap.size ≤ x.g) (hp : M.Pairwise (fun x y => x.g ≠ y.g)) : Bl w (L ++ M) v := by
  have h1 := h.more k
  refine ⟨h1.gr, ?_, List.pairwise_append.2 ⟨h.ne, hp, ?_⟩⟩
  · intro x hx
    rcases List.mem_append.1 hx with hx | hx
    · exact h1.at_ x hx
    · exact ⟨(hm x hx).1, Nat.le_trans h.gr.size (hm x hx).2⟩
  · intro x hx y hy
    have h2 := lt_of_block (h.at_ x hx).1
    have h3 := (hm y hy).2
    omega
/-- a variable that has been made -/
def New (W : World) (z : Array Value) (t : TypeId) (w : World) (q : Value) (g : Nat) : Prop := q = .pointer (some ⟨g, 0, none⟩) ∧ W.heap.size ≤ g ∧ w.heap[g]? = some (.cells z t (0, 0))
theorem New.more {W u v : World} {z : Array Value} {t : TypeId} {q : Value} {g : Nat} (h : New W z t u q g) (k : Gr u v) : New W z t v q g := ⟨h.1, h.2.1, k.blk h.2.2⟩
theorem New.lt {W u : World} {z : Array Value} {t : TypeId} {q : Value} {g : Nat} (h : New W z t u q g) : g < u.heap.size := lt_of_block h.2.2

theorem exec_arr {P : Program} {op : Oper} {a : Act} (w : World) (ty : TypeId) (x : Operand) (ho : op.op = .load ty x)
    (b : Nat) (hx : a.eval x = .pointer (some ⟨b, 0, none⟩)) (cs : Array Value) (t : TypeId) (d : TypeDesc) (h : w.heap[b]? = some (.cells cs t (0, 0)))
    (hu : P.underlying ty = some d) (hd : d.isRow = true) (hi : (P.info? ty).map (·.size) = some cs.size) : (execOp a.eval op).run P w = .ok (.value (.agg cs)) w := by
  have := exec_row (P := P) (op := op) (a := a) w ty x ho b 0 hx cs.toList d (range_row (t := t) (by simpa using h)) hu hd (by simpa using hi)
  simpa using this

/-! ### a list of operations, one behind the other -/
section
variable {P : Program} {ops : Array Oper} {Q : Exit → Act → World → Prop} {a : Act} {w : World} {o : Oper} {rest : List Oper}
theorem list_val (v : Value) (hw : Region.wanted o (yielded ops a.tmps) = true) (hx : (execOp a.eval o).run P w = .ok (.value v) w) (h : wpList P ops Q rest (a.put o.dst v) w) : wpList P ops Q (o :: rest) a w := by
  refine wpList_step fun K hK => ?_
  rw [if_pos hw]
  unfold Oper.wp
  rw [hx]
  exact hK _ _ h
theorem list_call (f : FuncId) (args : Array Value) (hw : Region.wanted o (yielded ops a.tmps) = true) (hx : (execOp a.eval o).run P w = .ok (.enter f args) w)
    (hc : Calls P f args w fun e w' => ∃ v, e = .returned v ∧ wpList P ops Q rest (a.put o.dst v) w') : wpList P ops Q (o :: rest) a w := by
  refine wpList_step fun K hK => ?_
  refine step_callw hw f args hx (hc.mono ?_)
  rintro e w' ⟨v, rfl, h⟩
  exact ⟨v, rfl, hK _ _ h⟩
theorem list_store (ty : TypeId) (x y : Operand) (g : Nat) (c : Array Value) (t : TypeId) (old : Array Value) (hw : Region.wanted o (yielded ops a.tmps) = true) (ho : o.op = .store ty x y)
    (hx : a.eval x = .pointer (some ⟨g, 0, none⟩)) (hy : a.eval y = .agg c) (hg : w.heap[g]? = some (.cells old t (0, 0))) (hi : (P.info? ty).map (·.size) = some c.size) (hold : old.size = c.size) (h1 : c.all (·.oneCell') = true)
    (h : wpList P ops Q rest (a.put o.dst undef) (w.setRow g c)) : wpList P ops Q (o :: rest) a w := by
  refine wpList_step fun K hK => ?_
  rw [if_pos hw]
  exact wp_store_row ty x y ho g c hx hy t old hg hi hold h1 (hK _ _ h)
end

/-! ### an order that is drawn -/
section
variable {P : Program} {md : Region.Mode} {ops : Array Oper} {Q : Exit → Act → World → Prop} {S : World → Prop}
/-- what is left, in whatever order -/
def Any (P : Program) (md : Region.Mode) (ops : Array Oper) (Q : Exit → Act → World → Prop) (S : World → Prop) (l : Array Bool) (a : Act) (w : World) : Prop :=
  ∀ fuel, (l.toList.filter (!·)).length ≤ fuel → wpAnyH P md ops Q S fuel l a w

theorem left_of {l : Array Bool} {i : Nat} (h1 : l.getD i true = false) : ((l.setIfInBounds i true).toList.filter (!·)).length + 1 = (l.toList.filter (!·)).length := by
  have h2 : l.toList[i]? = some false := by
    rcases Nat.lt_or_ge i l.size with h | h
    · rw [Array.getElem?_toList, Array.getElem?_eq_getElem h]
      simp [Array.getD, h] at h1
      rw [h1]
    · simp [Array.getD, Nat.not_lt.2 h] at h1
  rw [Array.toList_setIfInBounds]
  exact falses_set l.toList i h2

theorem any_start {id : Nat} {a : Act} {w : World} (hm : P.follows .mixedOrders = true) (h : Any P .any ops Q S (Array.replicate ops.size false) a w.drew) : (Code.region id ops true).wp P Q a w := by
  refine wp_region_held hm (h ops.size ?_)
  simp

/-- what is listed in the one is listed in the other -/
def leB (n : Nat) (l0 l : Array Bool) : Bool := (List.range n).all fun j => !(l0.getD j true) || l.getD j true
def rdB (md : Region.Mode) (ops : Array Oper) (l : Array Bool) (i : Nat) : Bool := decide (i < ops.size) && (!l.getD i true && ((ops[i]?).map (·.after.all fun e => !Region.binds md e || l.getD e.on false)).getD false)
theorem rdB_mem {l : Array Bool} {i : Nat} (h : rdB md ops l i = true) : i ∈ Region.ready md ops l := by
  unfold rdB at h
  rw [Bool.and_eq_true, decide_eq_true_eq] at h
  unfold Region.ready
  rw [List.mem_filter, List.mem_range]
  exact h

theorem any_take {i : Nat} {oi : Oper} {v : Value} {l : Array Bool} {a : Act} {w : World} (l0 : Array Bool) (hi : ops[i]? = some oi)
    (hs : Region.noSelect ops = true) (hle : leB ops.size l0 l = true) (hf : Region.free md ops l0 i = true) (hr : rdB md ops l i = true)
    (hQ : ∀ c a w, Q (.panic c) (a.put oi.dst v) w → Q (.panic c) a w) (hy : YieldsIf P ops S oi v a) (hS : S w)
    (h : Any P md ops Q S (l.setIfInBounds i true) (a.put oi.dst v) w) : Any P md ops Q S l a w := by
  intro fuel hfu
  have hm := rdB_mem hr
  have h1 := left_of (mem_ready.1 hm).1
  obtain ⟨f, rfl⟩ : ∃ f, fuel = f + 1 := ⟨fuel - 1, by omega⟩
  refine wpAnyH_first hi (Region.noSelect_spec hs) hQ f l a w ?_ hm hy hS (h f (by omega))
  intro j oj hj hji hjl hn
  refine Region.free_spec hi hf j oj hj hji ?_ hn
  have hjs : j < ops.size := by
    rcases Nat.lt_or_ge j ops.size with h | h
    · exact h
    · rw [Array.getElem?_eq_none h] at hj
      cases hj
  have h2 := List.all_eq_true.1 hle j (List.mem_range.2 hjs)
  rw [hjl] at h2
  simpa using h2
theorem any_done {l : Array Bool} {a : Act} {w : World} (hr : Region.ready md ops l = []) (h : Q .normal a w) : Any P md ops Q S l a w := fun fuel _ => wpAnyH_done hr h fuel
theorem any_one {i : Nat} {o : Oper} {l : Array Bool} {a : Act} {w : World} (hr : Region.ready md ops l = [i]) (ho : ops[i]? = some o)
    (h : ∀ K' : Act → World → Prop, Shut (∀ a w, S w → (S w → Any P md ops Q S (l.setIfInBounds i true) a w) → K' a w) → if Region.wanted o (yielded ops a.tmps) = true then Oper.wp P o a w K' Q else K' (a.put o.dst undef) w) : Any P md ops Q S l a w := by
  intro fuel hfu
  have hm : i ∈ Region.ready md ops l := by rw [hr]; exact List.mem_cons_self
  have h1 := left_of (mem_ready.1 hm).1
  obtain ⟨f, rfl⟩ : ∃ f, fuel = f + 1 := ⟨fuel - 1, by omega⟩
  refine wpAnyH_ready hr (by simp) (AllReadyH.cons ho (fun K hK => ?_) AllReadyH.nil)
  exact h K (fun a w hS hW => hK.out a w hS (fun hS => hW hS f (by omega)))
/-- what holds of each state is kept, or what is left is shown -/
theorem any_stage (I : Array Bool → Act → World → Prop)
    (step : ∀ l a w, I l a w → Region.ready md ops l ≠ [] ∧ ∀ i ∈ Region.ready md ops l, wpOp P ops Q i (fun a' w' => S w' ∧ (I (l.setIfInBounds i true) a' w' ∨ Any P md ops Q S (l.setIfInBounds i true) a' w')) a w)
    {l : Array Bool} {a : Act} {w : World} (h : I l a w) : Any P md ops Q S l a w := by
  intro fuel
  induction fuel generalizing l a w with
  | zero =>
    intro hfu
    exfalso
    obtain ⟨hne, _⟩ := step l a w h
    rcases hq : Region.ready md ops l with _ | ⟨i, r⟩
    · exact hne hq
    · have hm : i ∈ Region.ready md ops l := by rw [hq]; exact List.mem_cons_self
      have := left_of (mem_ready.1 hm).1
      omega
  | succ f ih =>
    intro hfu
    obtain ⟨hne, hs⟩ := step l a w h
    refine ⟨fun h0 => absurd h0 hne, fun i hm => wpOp_mono (fun a' w' k => ⟨k.1, ?_⟩) (hs i hm)⟩
    have h1 := left_of (mem_ready.1 hm).1
    rcases k.2 with k2 | k2
    · exact ih k2 (by omega)
    · exact k2 f (by omega)
end
end Go.Proofs.Ytcefkkoombmndaa
