/-
  Of layer 12: what the proof leans on.
-/
import Derived.Great.BuildSlice
import Derived.Laws.BytesArg
import Derived.ChangeKeysEq
import Derived.WideShapes
import Derived.Test.YtaoiejgjdmakjaaGreatDoorReadsK3
namespace Go.Proofs.YtaoiejgjdmakjaaGreatDoor
open Go.RowKit
section
variable {P : Program} {md : Region.Mode} {ops : Array Oper} {Q : Exit → Act → World → Prop} {S : World → Prop} {c : Nat}
def wpAnyC (P : Program) (md : Region.Mode) (ops : Array Oper) (Q : Exit → Act → World → Prop) (S : World → Prop) (c : Nat) : Nat → Array Bool → Act → World → Prop
  | 0, l, a, w => Region.ready md ops l = [] ∧ Q .normal a w
  | f + 1, l, a, w => (Region.ready md ops l = [] → Q .normal a w) ∧
      ∀ i ∈ Region.ready md ops l, wpOp P ops Q i (fun a' w' => ((l.setIfInBounds i true).getD c false = false → S w') ∧ wpAnyC P md ops Q S c f (l.setIfInBounds i true) a' w') a w
theorem wpAny_of_C : ∀ (f : Nat) (l : Array Bool) (a : Act) (w : World), wpAnyC P md ops Q S c f l a w → wpAny P md ops Q f l a w
  | 0, _, _, _, h => h
  | f + 1, _, _, _, h => ⟨h.1, fun i hi => wpOp_mono (fun a' w' h' => wpAny_of_C f _ a' w' h'.2) (h.2 i hi)⟩
theorem wpAnyC_free : ∀ (f : Nat) (l : Array Bool) (a : Act) (w : World), l.getD c false = true → wpAnyH P md ops Q (fun _ => True) f l a w → wpAnyC P md ops Q S c f l a w
  | 0, _, _, _, _, h => h
  | f + 1, l, _, _, hl, h => ⟨h.1, fun i hi => wpOp_mono (fun a' w' h' => ⟨fun e => (by rw [getD_set_true hl] at e; cases e), wpAnyC_free f _ a' w' (getD_set_true hl) h'.2⟩) (h.2 i hi)⟩
theorem wpAnyC_first {i : Nat} {oi oc : Oper} {v : Value} (hi : ops[i]? = some oi) (hsel : ∀ (j : Nat) (o : Oper) cs b, ops[j]? = some o → o.op ≠ .select cs b)
    (hQ : ∀ c a w, Q (.panic c) (a.put oi.dst v) w → Q (.panic c) a w) (hci : i ≠ c) (T : World → Prop) (hTS : ∀ w, S w → T w) (hoc : ops[c]? = some oc) (hT : (∀ w, T w) ∨ ∃ e ∈ oc.after, Region.binds md e = true ∧ e.on = i) :
    ∀ (fuel : Nat) (listed : Array Bool) (a : Act) (w : World),
      (∀ j oj, ops[j]? = some oj → j ≠ i → listed.getD j true = false → (∀ e ∈ oj.after, Region.binds md e = true → e.on ≠ i) → oi.apart ops oj = true) →
      i ∈ Region.ready md ops listed → YieldsIf P ops T oi v a → (listed.getD c false = false → S w) → ((∀ w, T w) ∨ listed.getD c false = false) →
      wpAnyC P md ops Q S c fuel (listed.setIfInBounds i true) (a.put oi.dst v) w → wpAnyC P md ops Q S c (fuel + 1) listed a w := by
  intro fuel
  have now : ∀ (l : Array Bool) (w : World), (l.getD c false = false → S w) → ((∀ w, T w) ∨ l.getD c false = false) → T w := fun l w hS hB => by
    rcases hB with h | h
    · exact h w
    · exact hTS w (hS h)
  induction fuel with
  | zero =>
    intro listed a w _ hr hy hS hB H
    refine ⟨fun h => (by rw [h] at hr; cases hr), fun j hj => ?_⟩
    by_cases hji : j = i
    · subst hji
      exact hy.wpOp hi (now _ _ hS hB) ⟨fun e => hS (by rw [getD_set_ne false hci] at e; exact e), H⟩
    · have := ready_mono hj hji
      rw [H.1] at this
      cases this
  | succ fuel ih =>
    intro listed a w hfree hr hy hS hB H
    refine ⟨fun h => (by rw [h] at hr; cases hr), fun j hj => ?_⟩
    by_cases hji : j = i
    · subst hji
      exact hy.wpOp hi (now _ _ hS hB) ⟨fun e => hS (by rw [getD_set_ne false hci] at e; exact e), H⟩
    · have h1 := H.2 j (ready_mono hj hji)
      obtain ⟨hjun, oj, hoj, hall⟩ := mem_ready.1 hj
      have hnot : ∀ e ∈ oj.after, Region.binds md e = true → e.on ≠ i := fun e he hb heq => by
        have h1 := hall e he hb
        have h0 := (mem_ready.1 hr).1
        rw [heq] at h1
        rcases Nat.lt_or_ge i listed.size with h' | h'
        · simp [h'] at h0 h1; rw [h0] at h1; cases h1
        · simp [Array.getElem?_eq_none h'] at h1
      have h2 := wpOp_putIf hoj (hfree j oj hoj hji hjun hnot) (fun cs b => hsel i oi cs b hi) (fun cs b => hsel j oj cs b hoj) hQ hy h1
      have hfree' : ∀ k ok, ops[k]? = some ok → k ≠ i → (listed.setIfInBounds j true).getD k true = false →
          (∀ e ∈ ok.after, Region.binds md e = true → e.on ≠ i) → oi.apart ops ok = true := fun k ok hk hki hun hno => by
        refine hfree k ok hk hki ?_ hno
        by_cases hjk : j = k
        · subst hjk; exact hjun
        · rw [getD_set_ne true hjk] at hun; exact hun
      refine wpOp_mono (fun a' w' h3 => ?_) h2
      have hS' : (listed.setIfInBounds j true).getD c false = false → S w' := fun e => by
        refine h3.2.1 ?_
        rw [Array.setIfInBounds_comm _ _ (Ne.symm hji), getD_set_ne false hci]
        exact e
      have hB' : (∀ w, T w) ∨ (listed.setIfInBounds j true).getD c false = false := by
        rcases hB with h | h
        · exact .inl h
        · rcases hT with h' | ⟨e, he, hb, heq⟩
          · exact .inl h'
          · refine .inr ?_
            have hjc : j ≠ c := by
              rintro rfl
              rw [hoj] at hoc
              cases hoc
              exact hnot e he hb heq
            rw [getD_set_ne false hjc]
            exact h
      refine ⟨hS', ih (listed.setIfInBounds j true) a' w' hfree' (ready_mono hr (Ne.symm hji)) h3.1 hS' hB' ?_⟩
      rw [Array.setIfInBounds_comm _ _ hji]
      exact h3.2.2
def AnyC (P : Program) (md : Region.Mode) (ops : Array Oper) (Q : Exit → Act → World → Prop) (S : World → Prop) (c : Nat) (l : Array Bool) (a : Act) (w : World) : Prop :=
  ∀ fuel, (l.toList.filter (!·)).length ≤ fuel → wpAnyC P md ops Q S c fuel l a w
theorem anyC_start {id : Nat} {a : Act} {w : World} (c : Nat) (S : World → Prop) (hm : P.follows .mixedOrders = true) (h : AnyC P .any ops Q S c (Array.replicate ops.size false) a w.drew) : (Code.region id ops true).wp P Q a w := by
  refine wp_region_any hm (wpAny_of_C _ _ _ _ (h ops.size ?_))
  simp
def depB (md : Region.Mode) (ops : Array Oper) (c i : Nat) : Bool := ((ops[c]?).map (·.after.any fun e => Region.binds md e && e.on == i)).getD false
theorem anyC_take {i : Nat} {oi : Oper} {v : Value} {l : Array Bool} {a : Act} {w : World} (T : World → Prop) (hTS : ∀ w, S w → T w) (hT : (∀ w, T w) ∨ depB md ops c i = true) (hi : ops[i]? = some oi)
    (hs : Region.noSelect ops = true) (hf : Region.free md ops l i = true) (hr : rdB md ops l i = true) (hci : i ≠ c) (hl : l.getD c true = false) (hc : c < ops.size)
    (hQ : ∀ c a w, Q (.panic c) (a.put oi.dst v) w → Q (.panic c) a w) (hy : YieldsIf P ops T oi v a) (hS : S w)
    (h : AnyC P md ops Q S c (l.setIfInBounds i true) (a.put oi.dst v) w) : AnyC P md ops Q S c l a w := by
  intro fuel hfu
  have hm := rdB_mem hr
  have h1 := left_of (mem_ready.1 hm).1
  obtain ⟨f, rfl⟩ : ∃ f, fuel = f + 1 := ⟨fuel - 1, by omega⟩
  have hlc : l.getD c false = false := by
    rcases Nat.lt_or_ge c l.size with h' | h'
    · simp [h'] at hl ⊢
      exact hl
    · simp [Array.getElem?_eq_none h']
  refine wpAnyC_first hi (Region.noSelect_spec hs) hQ hci T hTS (Array.getElem?_eq_getElem hc) ?_ f l a w (Region.free_spec hi hf) hm hy (fun _ => hS) (.inr hlc) (h f (by omega))
  rcases hT with h | h
  · exact .inl h
  · refine .inr ?_
    unfold depB at h
    rw [Array.getElem?_eq_getElem hc] at h
    simp only [Option.map_some, Option.getD_some, Array.any_eq_true'] at h
    obtain ⟨e, he, h⟩ := h
    rw [Bool.and_eq_true] at h
    exact ⟨e, he, h.1, by simpa using h.2⟩
theorem anyC_last {o : Oper} {l : Array Bool} {a : Act} {w : World} (hr : Region.ready md ops l = [c]) (ho : ops[c]? = some o)
    (h : ∀ K' : Act → World → Prop, Shut (∀ a w, Any P md ops Q (fun _ => True) (l.setIfInBounds c true) a w → K' a w) → if Region.wanted o (yielded ops a.tmps) = true then Oper.wp P o a w K' Q else K' (a.put o.dst undef) w) : AnyC P md ops Q S c l a w := by
  intro fuel hfu
  have hm : c ∈ Region.ready md ops l := by rw [hr]; exact List.mem_cons_self
  have h1 := left_of (mem_ready.1 hm).1
  obtain ⟨f, rfl⟩ : ∃ f, fuel = f + 1 := ⟨fuel - 1, by omega⟩
  have hsz : c < l.size := by
    rcases Nat.lt_or_ge c l.size with h' | h'
    · exact h'
    · have := (mem_ready.1 hm).1
      simp [Array.getElem?_eq_none h'] at this
  have hlc : (l.setIfInBounds c true).getD c false = true := by simp [hsz]
  refine ⟨fun h => (by rw [h] at hr; cases hr), fun j hj => ?_⟩
  rw [hr] at hj
  obtain rfl : j = c := by simpa using hj
  refine wpOp_step ho (fun K' hK => h K' (fun a w hA => hK a w ⟨fun e => ?_, ?_⟩))
  · rw [hlc] at e
    cases e
  · exact wpAnyC_free f _ a w hlc (hA f (by omega))
end
section
variable {P : Program} {md : Region.Mode} {ops : Array Oper} {Q : Exit → Act → World → Prop} {S : World → Prop} {c : Nat}
theorem anyC_one {i : Nat} {o : Oper} {l : Array Bool} {a : Act} {w : World} (hr : Region.ready md ops l = [i]) (ho : ops[i]? = some o)
    (h : ∀ K' : Act → World → Prop, Shut (∀ a w, S w → (S w → AnyC P md ops Q S c (l.setIfInBounds i true) a w) → K' a w) → if Region.wanted o (yielded ops a.tmps) = true then Oper.wp P o a w K' Q else K' (a.put o.dst undef) w) : AnyC P md ops Q S c l a w := by
  intro fuel hfu
  have hm : i ∈ Region.ready md ops l := by rw [hr]; exact List.mem_cons_self
  have h1 := left_of (mem_ready.1 hm).1
  obtain ⟨f, rfl⟩ : ∃ f, fuel = f + 1 := ⟨fuel - 1, by omega⟩
  refine ⟨fun h => (by rw [h] at hr; cases hr), fun j hj => ?_⟩
  rw [hr] at hj
  obtain rfl : j = i := by simpa using hj
  exact wpOp_step ho (fun K' hK => h K' (fun a w hS hA => hK a w ⟨fun _ => hS, hA hS f (by omega)⟩))
end
end Go.Proofs.YtaoiejgjdmakjaaGreatDoor

namespace Go.Proofs.YtaoiejgjdmakjaaGreatDoor
open Go.RowKit
set_option maxRecDepth 100000
set_option linter.unusedSimpArgs false
set_option linter.unusedVariables false
structure Dk where
  safe : List (List Int)
  pend : List (Nat × List Int)
  dead : Bool
  left : Int
  ops : Nat
def BB (b : List Int) : Prop := b.length = 64 ∧ IsB b
structure Dk.Ok (D : Dk) (m : Nat) : Prop where
  blk : ∀ b ∈ D.safe, BB b
  pnd : ∀ x ∈ D.pend, x.1 < D.safe.length ∧ BB x.2
  lo1 : 1 ≤ D.safe.length
  hi1 : D.safe.length ≤ 512
  lo : -1 ≤ D.left
  hi : D.left < 9223372036854775808
  ops : D.ops ≤ m
  num : D.pend.length ≤ m
theorem Dk.Ok.up {D : Dk} {m k : Nat} (h : D.Ok m) (hk : m ≤ k) : D.Ok k := ⟨h.blk, h.pnd, h.lo1, h.hi1, h.lo, h.hi, Nat.le_trans h.ops hk, Nat.le_trans h.num hk⟩
def ZB : List Int := List.replicate 64 0
theorem ZB_bb : BB ZB := ⟨rfl, fun x hx => by have := List.eq_of_mem_replicate hx; omega⟩
def curL (S : List (List Int)) (P : List (Nat × List Int)) (i : Nat) : Nat → List Int
  | 0 => S.getD i []
  | k + 1 => if (P.getD k (0, [])).1 = i then (P.getD k (0, [])).2 else curL S P i k
def Dk.cur (D : Dk) (i : Nat) : List Int := curL D.safe D.pend i D.pend.length
def Dk.has (D : Dk) (i : Int) : Prop := 0 ≤ i ∧ i < (D.safe.length : Int)
instance (D : Dk) (i : Int) : Decidable (D.has i) := by unfold Dk.has; exact inferInstance
def Dk.readB (D : Dk) (i : Int) : List Int := if D.dead then ZB else if D.has i then D.cur i.toNat else ZB
def Dk.readE (D : Dk) (i : Int) : Int := if D.dead then 7 else if D.has i then 0 else 2
def Dk.doneD (D : Dk) : Dk := if D.left = 0 then { D with dead := true } else { D with left := if 0 < D.left then D.left - 1 else D.left, ops := D.ops + 1 }
def liv (S : List (List Int)) (P : List (Nat × List Int)) (keep : List Bool) : Nat → List (List Int)
  | 0 => S
  | k + 1 => if keep.getD k false then (liv S P keep k).set (P.getD k (0, [])).1 (P.getD k (0, [])).2 else liv S P keep k
def Dk.live (D : Dk) (keep : List Bool) : Dk := { D with safe := liv D.safe D.pend keep D.pend.length, pend := [] }
def Dk.all (D : Dk) : List Bool := List.replicate D.pend.length true
def Dk.writeD (D : Dk) (i : Int) (b : List Int) : Dk := if D.dead then D else if D.has i then (if D.left = 0 then D.doneD else { D.doneD with pend := D.doneD.pend ++ [(i.toNat, b)] }) else D
def Dk.writeE (D : Dk) (i : Int) : Int := if D.dead then 7 else if D.has i then (if D.left = 0 then 7 else 0) else 2
def Dk.syncD (D : Dk) : Dk := if D.dead then D else if D.left = 0 then D.doneD else D.doneD.live D.doneD.all
def Dk.syncE (D : Dk) : Int := if D.dead then 7 else if D.left = 0 then 7 else 0
def Dk.crashD (D : Dk) (keep : List Bool) : Dk := { D.live keep with dead := false, left := -1 }
def dk0 (n : Nat) : Dk := ⟨List.replicate n ZB, [], false, -1, 0⟩
theorem mem_of_getD {α : Type} {l : List α} {d : α} {i : Nat} (h : i < l.length) : l.getD i d ∈ l := by
  rw [List.getD_eq_getElem?_getD, List.getElem?_eq_getElem h]
  exact List.getElem_mem h
theorem curL_bb {D : Dk} {m : Nat} (h : D.Ok m) (i : Nat) (hi : i < D.safe.length) : ∀ k, k ≤ D.pend.length → BB (curL D.safe D.pend i k)
  | 0, _ => h.blk _ (mem_of_getD hi)
  | k + 1, hk => by
    unfold curL
    split
    · exact (h.pnd _ (mem_of_getD (by omega))).2
    · exact curL_bb h i hi k (by omega)
theorem Dk.cur_bb {D : Dk} {m : Nat} (h : D.Ok m) (i : Nat) (hi : i < D.safe.length) : BB (D.cur i) := curL_bb h i hi _ (Nat.le_refl _)
theorem Dk.readB_bb {D : Dk} {m : Nat} (h : D.Ok m) (i : Int) : BB (D.readB i) := by
  unfold Dk.readB
  split
  · exact ZB_bb
  · split
    · rename_i h2
      exact Dk.cur_bb h _ (by unfold Dk.has at h2; omega)
    · exact ZB_bb
theorem liv_len (S : List (List Int)) (P : List (Nat × List Int)) (keep : List Bool) : ∀ k, (liv S P keep k).length = S.length
  | 0 => rfl
  | k + 1 => by
    unfold liv
    split
    · rw [List.length_set, liv_len S P keep k]
    · exact liv_len S P keep k
theorem mem_set_or {α : Type} {l : List α} {i : Nat} {x y : α} (h : y ∈ l.set i x) : y = x ∨ y ∈ l := by
  rcases List.mem_or_eq_of_mem_set h with h | h
  · exact .inr h
  · exact .inl h
theorem liv_bb {S : List (List Int)} {P : List (Nat × List Int)} (hS : ∀ b ∈ S, BB b) (hP : ∀ x ∈ P, BB x.2) (keep : List Bool) : ∀ k, k ≤ P.length → ∀ b ∈ liv S P keep k, BB b
  | 0, _ => hS
  | k + 1, hk => by
    intro b hb
    unfold liv at hb
    split at hb
    · rcases mem_set_or hb with rfl | h
      · exact hP _ (mem_of_getD (by omega))
      · exact liv_bb hS hP keep k (by omega) b h
    · exact liv_bb hS hP keep k (by omega) b hb
theorem Dk.Ok.done {D : Dk} {m : Nat} (h : D.Ok m) : D.doneD.Ok (m + 1) := by
  unfold Dk.doneD
  split
  · exact ⟨h.blk, h.pnd, h.lo1, h.hi1, h.lo, h.hi, by have := h.ops; show D.ops ≤ m + 1; omega, by have := h.num; show D.pend.length ≤ m + 1; omega⟩
  · refine ⟨h.blk, h.pnd, h.lo1, h.hi1, ?_, ?_, by have := h.ops; show D.ops + 1 ≤ m + 1; omega, by have := h.num; show D.pend.length ≤ m + 1; omega⟩
    · have h1 := h.lo
      dsimp only
      split <;> omega
    · have h1 := h.hi
      dsimp only
      split <;> omega
theorem Dk.Ok.live {D : Dk} {m : Nat} (h : D.Ok m) (keep : List Bool) : (D.live keep).Ok m := by
  unfold Dk.live
  refine ⟨?_, (fun x hx => by cases hx), ?_, ?_, h.lo, h.hi, h.ops, Nat.zero_le _⟩
  · exact liv_bb h.blk (fun x hx => (h.pnd x hx).2) keep _ (Nat.le_refl _)
  · show 1 ≤ (liv _ _ _ _).length
    rw [liv_len]; exact h.lo1
  · show (liv _ _ _ _).length ≤ 512
    rw [liv_len]; exact h.hi1
theorem Dk.Ok.write {D : Dk} {m : Nat} (h : D.Ok m) (i : Int) (b : List Int) (hb : BB b) : (D.writeD i b).Ok (m + 1) := by
  unfold Dk.writeD
  split
  · exact h.up (by omega)
  · split
    · rename_i h2
      split
      · exact h.done
      · rename_i h3
        have k := h.done
        have e : D.doneD.safe = D.safe ∧ D.doneD.pend = D.pend := by unfold Dk.doneD; split <;> exact ⟨rfl, rfl⟩
        refine ⟨k.blk, ?_, k.lo1, k.hi1, k.lo, k.hi, k.ops, ?_⟩
        · intro x hx
          rcases List.mem_append.1 hx with hx | hx
          · exact k.pnd x hx
          · rw [List.mem_singleton] at hx
            subst hx
            refine ⟨?_, hb⟩
            show i.toNat < D.doneD.safe.length
            rw [e.1]
            unfold Dk.has at h2
            omega
        · show (D.doneD.pend ++ [(i.toNat, b)]).length ≤ m + 1
          rw [List.length_append, e.2]
          have := h.num
          simp
          omega
    · exact h.up (by omega)
theorem Dk.Ok.sync {D : Dk} {m : Nat} (h : D.Ok m) : D.syncD.Ok (m + 1) := by
  unfold Dk.syncD
  split
  · exact h.up (by omega)
  · split
    · exact h.done
    · exact h.done.live _
theorem dk0_ok (n : Nat) (h1 : 1 ≤ n) (h2 : n ≤ 512) : (dk0 n).Ok 0 := by
  refine ⟨?_, (fun x hx => by cases hx), ?_, ?_, by show (-1 : Int) ≤ -1; omega, by show (-1 : Int) < _; omega, Nat.le_refl _, Nat.le_refl _⟩
  · intro b hb
    rw [List.eq_of_mem_replicate hb]
    exact ZB_bb
  · show 1 ≤ (List.replicate n ZB).length
    rw [List.length_replicate]; exact h1
  · show (List.replicate n ZB).length ≤ 512
    rw [List.length_replicate]; exact h2
def bv (b : List Int) : List Value := b.map (Value.int .u8)
def wv (x : Nat × List Int) : List Value := Value.int .i64 (x.1 : Int) :: bv x.2
theorem bv_len (b : List Int) : (bv b).length = b.length := by unfold bv; simp
theorem wv_len (x : Nat × List Int) : (wv x).length = x.2.length + 1 := by unfold wv; simp [bv_len]
theorem wv_one (x : Nat × List Int) : (wv x).toArray.all (·.oneCell') = true := by unfold wv bv; simp [Value.oneCell']
structure Ls (k : Nat) (w : World) (a : Option Addr) (n c : Nat) (R : List (List Value)) : Prop where
  len : R.length = n
  row : ∀ r ∈ R, r.length = k
  sl : R = [] ∨ ∃ p o, a = some ⟨p, o, none⟩ ∧ w.rangeAt p o R.flatten
  cap : n ≤ c
  max : c < 9223372036854775808
  low : ∀ p, a.map (·.block) = some p → p < w.heap.size
theorem range_gr {w v : World} {p o : Nat} {L : List Value} (h : w.rangeAt p o L) (g : Gr w v) : v.rangeAt p o L := fun j x hj => g.cell (h j x hj)
theorem Ls.gr {k : Nat} {w v : World} {a : Option Addr} {n c : Nat} {R : List (List Value)} (h : Ls k w a n c R) (g : Gr w v) : Ls k v a n c R := by
  refine ⟨h.len, h.row, ?_, h.cap, h.max, fun p e => Nat.lt_of_lt_of_le (h.low p e) g.size⟩
  rcases h.sl with h | ⟨p, o, h1, h2⟩
  · exact .inl h
  · exact .inr ⟨p, o, h1, range_gr h2 g⟩
theorem flat_row : ∀ (R : List (List Value)) (k : Nat), (∀ r ∈ R, r.length = k) → ∀ (i j : Nat), i < R.length → j < k → R.flatten[k * i + j]? = (R.getD i [])[j]?
  | [], _, _, i, _, hi, _ => absurd hi (Nat.not_lt_zero i)
  | r :: R, k, h, 0, j, _, hj => by
    have hr := h r List.mem_cons_self
    rw [List.flatten_cons, Nat.mul_zero, Nat.zero_add, List.getElem?_append_left (by omega)]
    rfl
  | r :: R, k, h, i + 1, j, hi, hj => by
    have hr := h r List.mem_cons_self
    have ih := flat_row R k (fun x hx => h x (List.mem_cons_of_mem _ hx)) i j (by simpa using hi) hj
    rw [List.flatten_cons, List.getElem?_append_right (by rw [hr, Nat.mul_succ]; omega), hr, show k * (i + 1) + j - k = k * i + j from by rw [Nat.mul_succ]; omega, ih]
    rfl
theorem Ls.at_ {k : Nat} {w : World} {a : Option Addr} {n c : Nat} {R : List (List Value)} (h : Ls k w a n c R) (i : Nat) (hi : i < n) : ∃ p o, a = some ⟨p, o, none⟩ ∧ w.rangeAt p (o + k * i) (R.getD i []) := by
  have hl := h.len
  rcases h.sl with h0 | ⟨p, o, h1, h2⟩
  · rw [h0] at hl
    simp at hl
    omega
  · refine ⟨p, o, h1, fun j x hj => ?_⟩
    have hrl := h.row _ (mem_of_getD (d := []) (show i < R.length by omega))
    have hj2 : j < k := by have := (List.getElem?_eq_some_iff.1 hj).1; omega
    rw [Nat.add_assoc]
    exact h2 _ _ (by rw [flat_row R k h.row i j (by omega) hj2]; exact hj)
theorem getD_map {α β : Type} (f : α → β) (l : List α) (i : Nat) (d : α) (e : β) (h : i < l.length) : (l.map f).getD i e = f (l.getD i d) := by
  rw [List.getD_eq_getElem?_getD, List.getD_eq_getElem?_getD, List.getElem?_map, List.getElem?_eq_getElem h]
  rfl
def blkOf (a : Option Addr) : Option Nat := a.map (·.block)
theorem exec_sb {op : Oper} {a : Act} (w : World) (x : Operand) (ho : op.op = .load 22 x) (g i : Nat) (hx : a.eval x = .pointer (some ⟨g, i, none⟩)) (s : Option Addr) (n c : Nat) (hc : w.cell? ⟨g, i, none⟩ = some (.slice s n c)) : (execOp a.eval op).run Tryz.prog w = .ok (.value (.slice s n c)) w := by
  unfold execOp
  simp only [ho, hx, Instr.loadAt, Instr.sureAddr, Sem.run_bind, Sem.run_pure, Result.andThen_ok]
  go_simp
theorem exec_ib {a : Act} {o : Oper} (w : World) (x y : Operand) (ho : o.op = .indexAddr 22 x y) (g q len cap i : Nat) (hx : a.eval x = .slice (some ⟨g, q, none⟩) len cap) (hy : a.eval y = .int .i64 i) (hi : i < len) :
    (execOp a.eval o).run Tryz.prog w = .ok (.value (.pointer (some ⟨g, q + 64 * i, none⟩))) w := by
  have h1 : (i : Int) < (len : Int) := by omega
  unfold execOp
  simp only [ho, hx, hy]
  go_simp
theorem exec_bool {op : Oper} {a : Act} (w : World) (x : Operand) (ho : op.op = .load 4 x) (g i : Nat) (hx : a.eval x = .pointer (some ⟨g, i, none⟩)) (v : Bool) (hc : w.cell? ⟨g, i, none⟩ = some (.bool v)) : (execOp a.eval op).run Tryz.prog w = .ok (.value (.bool v)) w := by
  unfold execOp
  simp only [ho, hx, Instr.loadAt, Instr.sureAddr, Sem.run_bind, Sem.run_pure, Result.andThen_ok]
  go_simp
theorem Tryz.infoB : (Tryz.prog.info? 36).map (·.size) = some 64 := by kernel_rfl
def Rrd (b : List Int) (e : Int) (w : World) (r : Ending) (w' : World) : Prop := r = .returned (.tuple #[.agg (kc b), .int .i64 e]) ∧ Gr w w'
theorem ZB_len : ZB.length = 64 := rfl
theorem Tryz.infoBz : (Tryz.prog.info? 36).map (fun i => (i.zero, i.size, i.bytes)) = some (some (.agg (kc ZB)), 64, 64) := by kernel_rfl
theorem make_blocks (w : World) {ops : Array Oper} {rest : List Oper} {o : Oper} {a : Act} {Q : Exit → Act → World → Prop} (hgd : o.guard = none) (l c : Operand) (hop : o.op = Op.makeSlice 22 l c) (n : Nat) (hl : a.eval l = .int .i64 n) (hc : a.eval c = .int .i64 n) (hn : n ≤ 100000)
    (h : wpList Tryz.prog ops Q rest (a.put o.dst (.slice (some ⟨w.heap.size, 0, none⟩) n n)) (w.alloc (.cells (kc (List.replicate (n * 64) 0)) 36 (0, 0)))) : wpList Tryz.prog ops Q (o :: rest) a w := by
  obtain ⟨i, h2, h3, h4, h5⟩ := info_parts Tryz.infoBz
  have hrun := run_make (P := Tryz.prog) w 22 36 i (.agg (kc ZB)) Tryz.underlying22 h2 h3 .i64 .i64 (n : Int) (n : Int) (by omega) (by omega) (by rw [h5]; omega) (by omega)
  rw [h4] at hrun
  have e : madeCells (Value.agg (kc ZB)).cells (n * 64) = kc (List.replicate (n * 64) 0) := by
    apply Array.ext
    · simp [size_madeCells, kc]
    · intro i h1 h2
      have h6 : i % 64 < 64 := Nat.mod_lt _ (by omega)
      have h7 : (kc ZB)[i % 64]! = Value.int .u8 0 := by
        have h10 : ZB.getD (i % 64) 0 = 0 := by
          unfold ZB
          rw [List.getD_eq_getElem?_getD, List.getElem?_replicate, if_pos h6]
          rfl
        rw [getElem!_def, kc_get ZB (i % 64) h6, h10]
      have h8 : (Value.agg (kc ZB)).cells = kc ZB := rfl
      have h9 : (kc ZB).size = 64 := rfl
      simp only [madeCells, h8, h9, Array.getElem_map, Array.getElem_range, h7]
      unfold kc
      simp
  simp only [Int.toNat_natCast, e] at hrun
  rw [wpList, if_pos (by simp [Region.wanted, hgd])]
  refine Or.inl ?_
  unfold Oper.wp
  simp [execOp, hop, hl, hc, hrun, Result.andThen]
  exact h
def Or_ (k : Nat) (e : TypeId) (b : Nat) (w : World) (v : Value) (R : List (List Value)) : Prop := (∀ r ∈ R, r.length = k) ∧ w.ownsRow b e k v R.length R.flatten
theorem flat_len : ∀ (R : List (List Value)) (k : Nat), (∀ r ∈ R, r.length = k) → R.flatten.length = R.length * k
  | [], _, _ => by simp
  | r :: R, k, h => by
    have h1 := h r List.mem_cons_self
    have ih := flat_len R k (fun x hx => h x (List.mem_cons_of_mem _ hx))
    rw [List.flatten_cons, List.length_append, ih, h1, List.length_cons, Nat.add_mul]
    omega
theorem ownsRow_gr {k : Nat} {e : TypeId} {b : Nat} {w u : World} {v : Value} {n : Nat} {xs : List Value} (h : w.ownsRow b e k v n xs) (g : Gr w u) : u.ownsRow b e k v n xs := by
  obtain ⟨h1, h2 | ⟨p, cap, cur, h2, h3, h4, h5⟩⟩ := h
  · exact ⟨h1, .inl h2⟩
  · exact ⟨h1, .inr ⟨p, cap, cur, h2, h3, g.blk h4, h5⟩⟩
theorem Or_.gr {k : Nat} {e : TypeId} {b : Nat} {w u : World} {v : Value} {R : List (List Value)} (h : Or_ k e b w v R) (g : Gr w u) : Or_ k e b u v R := ⟨h.1, ownsRow_gr h.2 g⟩
theorem Or_.ls {k : Nat} {e : TypeId} {b : Nat} {w : World} {v : Value} {R : List (List Value)} (h : Or_ k e b w v R) : ∃ a c, v = .slice a R.length c ∧ Ls k w a R.length c R := by
  rcases h.2.2 with ⟨h1, h2⟩ | ⟨g, cap, cur, h1, h2, h3, h4, h5, h6, h7⟩
  · have e : R = [] := List.eq_nil_of_length_eq_zero h2
    subst e
    exact ⟨none, 0, h1, rfl, (fun r hr => by cases hr), .inl rfl, Nat.le_refl _, by omega, (fun p e => by cases e)⟩
  · refine ⟨_, cap, h1, rfl, h.1, .inr ⟨g, 0, rfl, fun j x hj => ?_⟩, h4, by unfold maxLen at h5; omega, fun p e => by have e3 := Option.some.inj e; rw [← e3]; exact lt_of_block h3⟩
    rw [Nat.zero_add]
    refine cell_of h3 ?_
    rw [← Array.getElem?_toList]
    have hjl := (List.getElem?_eq_some_iff.1 hj).1
    rw [h.2.1] at hjl
    rw [← h7, List.getElem?_take, if_pos hjl] at hj
    exact hj
theorem grown_owned {k : Nat} {e : TypeId} {b : Nat} {w u u' : World} {v : Value} {n : Nat} {xs : List Value} (h : u.ownsRow b e k v n xs) (hb : w.heap.size ≤ b) (g : Gr w u) (k : u.grownBy u' v.ownBlock) : Gr w u' := by
  refine ⟨k.os.trans g.os, k.tape.trans g.tape, k.output.trans g.output, Nat.le_trans g.size k.size, fun i hi => (k.block i (Nat.lt_of_lt_of_le hi g.size) ?_).trans (g.block i hi)⟩
  intro e
  have := (World.ownsRow.lt h i e.symm).1
  omega
structure Lt (t e : TypeId) (k n : Nat) : Prop where
  ht : Tryz.prog.underlying t = some (.slice e)
  hi : ∃ i z, Tryz.prog.info? e = some i ∧ i.zero = some z ∧ i.size = k ∧ i.bytes = n ∧ z.cells.size = k
  hk : 0 < k
  hn : n ≤ 100
theorem app_rows0 {t e : TypeId} {k nb : Nat} (L : Lt t e k nb) {w : World} {o : Oper} {a : Act} {K : Act → World → Prop} {Q : Exit → Act → World → Prop} (s x : Operand)
    (ho : o.op = .call { callee := .builtin .append, args := #[s, x], argTypes := #[t, t] }) (b : Nat) (v : Value) (R : List (List Value)) (hs : a.eval s = v) (hown : Or_ k e b w v R)
    (sp : Option Addr) (n sc : Nat) (l : List (List Value)) (hx : a.eval x = .slice sp n sc) (hn : l.length = n) (hrow : ∀ r ∈ l, r.length = k) (hsl : l = [] ∨ ∃ p o, sp = some ⟨p, o, none⟩ ∧ w.rangeAt p o l.flatten) (h1 : ∀ r ∈ l, ∀ u ∈ r, u.oneCell' = true) (hbig : ((R.length + n) + (R.length + n) / 4 + 192) * nb ≤ 281474976710656 ∧ R.length + n ≤ 4611686018427387904) (hB : b ≤ w.heap.size)
    (h : ∀ v' w', Or_ k e b w' v' (R ++ l) → w.grownBy w' v.ownBlock → K (a.put o.dst v') w') : o.wp Tryz.prog a w K Q := by
  obtain ⟨i0, z0, hi, hz0, hz1, hz2, hz3⟩ := L.hi
  have hnb := L.hn
  rcases hsl with rfl | ⟨p, q, rfl, hat⟩
  · obtain rfl : 0 = n := hn
    obtain ⟨a', c', rfl, hls⟩ := hown.ls
    have hc := hls.cap
    have hrun : (Builtin.append_ #[t, t] o.type #[.slice a' R.length c', .slice sp 0 sc]).run Tryz.prog w = .ok (.slice a' R.length c') w := by
      cases a' <;> cases sp <;> simp [Builtin.append_, run_underlying L.ht, sizeOf, typeInfo, hi, Builtin.lenOf, Builtin.firstCells, loadCells, loadCellsFrom, storeCells, hc]
    unfold Oper.wp
    simp [execOp, ho, resolve, invoke, builtin, hs, hx, hrun, Result.andThen]
    exact h _ _ (by rw [List.append_nil]; exact hown) (World.grownBy.refl _ _)
  · have hfl := flat_len l k hrow
    refine wp_append_own_wide w s x t ho b e i0 z0 k nb L.ht hi hz0 hz1 hz2 hz3 L.hk v R.length _ hs hown.2 ⟨p, q, none⟩ n sc l.flatten hx (by rw [hfl, hn]) ?_ ?_ (by unfold maxLen; omega) hbig.1 hB ?_
    · intro j u hj
      rw [Addr.add_mid]
      exact hat j u hj
    · intro u hu
      obtain ⟨r, hr, hu⟩ := List.mem_flatten.1 hu
      exact h1 r hr u hu
    · intro v' w' h1 h2 _
      refine h v' w' ⟨?_, ?_⟩ h2
      · intro r hr
        rcases List.mem_append.1 hr with hr | hr
        · exact hown.1 r hr
        · exact hrow r hr
      · rw [List.length_append, List.flatten_append, hn]
        exact h1
theorem app_rows {t e : TypeId} {k nb : Nat} (L : Lt t e k nb) {w : World} {o : Oper} {a : Act} {K : Act → World → Prop} {Q : Exit → Act → World → Prop} (s x : Operand)
    (ho : o.op = .call { callee := .builtin .append, args := #[s, x], argTypes := #[t, t] }) (b : Nat) (v : Value) (R : List (List Value)) (hs : a.eval s = v) (hown : Or_ k e b w v R)
    (sp : Option Addr) (n sc : Nat) (l : List (List Value)) (hx : a.eval x = .slice sp n sc) (hl : Ls k w sp n sc l) (h1 : ∀ r ∈ l, ∀ u ∈ r, u.oneCell' = true) (hbig : ((R.length + n) + (R.length + n) / 4 + 192) * nb ≤ 281474976710656 ∧ R.length + n ≤ 4611686018427387904) (hB : b ≤ w.heap.size)
    (h : ∀ v' w', Or_ k e b w' v' (R ++ l) → w.grownBy w' v.ownBlock → K (a.put o.dst v') w') : o.wp Tryz.prog a w K Q :=
  app_rows0 L s x ho b v R hs hown sp n sc l hx hl.len hl.row hl.sl h1 hbig hB h
def Cov (C L : List Value) : Prop := ∀ (q : Nat) (x : Value), L[q]? = some x → C[q]? = some x
theorem sp_get : ∀ (vs C : List Value) (o p : Nat), o + vs.length ≤ C.length → (sp C o vs)[p]? = if o ≤ p ∧ p < o + vs.length then vs[p - o]? else C[p]?
  | [], C, o, p, _ => by rw [if_neg (by simp; try omega)]; rfl
  | v :: vs, C, o, p, h => by
    have ih := sp_get vs (C.set o v) (o + 1) p (by rw [List.length_set]; simp at h; omega)
    show (sp (C.set o v) (o + 1) vs)[p]? = _
    rw [ih]
    simp only [List.length_cons] at h ⊢
    by_cases hp : p = o
    · subst hp
      rw [if_neg (by omega), if_pos (by omega), Nat.sub_self, List.getElem?_set_self (by omega)]
      rfl
    · by_cases h2 : o + 1 ≤ p ∧ p < o + 1 + vs.length
      · rw [if_pos h2, if_pos (by omega)]
        obtain ⟨d, hd⟩ : ∃ d, p - o = d + 1 := ⟨p - o - 1, by omega⟩
        rw [hd, List.getElem?_cons_succ]
        congr 1
        omega
      · rw [if_neg h2, if_neg (by omega), List.getElem?_set_ne (by omega)]
theorem sp_length : ∀ (vs C : List Value) (o : Nat), (sp C o vs).length = C.length
  | [], C, o => rfl
  | v :: vs, C, o => by
    show (sp (C.set o v) (o + 1) vs).length = _
    rw [sp_length, List.length_set]
theorem cov_set (k : Nat) (hk : 0 < k) (C : List Value) (R : List (List Value)) (hR : ∀ r ∈ R, r.length = k) (i : Nat) (hi : i < R.length) (r : List Value) (hr : r.length = k) (hC : R.length * k ≤ C.length) (h : Cov C R.flatten) : Cov (sp C (k * i) r) (R.set i r).flatten := by
  have hR2 : ∀ x ∈ R.set i r, x.length = k := by
    intro x hx
    rcases mem_set_or hx with rfl | hx
    · exact hr
    · exact hR x hx
  have hki : k * i + k ≤ R.length * k := by
    have : (i + 1) * k ≤ R.length * k := Nat.mul_le_mul_right _ (by omega)
    rw [Nat.add_mul, Nat.one_mul, Nat.mul_comm i k] at this
    omega
  intro q x hq
  have hql := (List.getElem?_eq_some_iff.1 hq).1
  rw [flat_len _ k hR2, List.length_set] at hql
  have hqd : q = k * (q / k) + q % k := (Nat.div_add_mod q k).symm
  have hm : q % k < k := Nat.mod_lt _ hk
  have hd : q / k < R.length := Nat.div_lt_of_lt_mul (by rw [Nat.mul_comm]; exact hql)
  rw [hqd, flat_row _ k hR2 (q / k) (q % k) (by rw [List.length_set]; exact hd) hm] at hq
  rw [sp_get r C (k * i) q (by omega)]
  by_cases hqi : q / k = i
  · rw [hqi] at hq hqd
    rw [if_pos (by rw [hr]; omega), show q - k * i = q % k from by omega]
    rw [List.getD_eq_getElem?_getD, List.getElem?_set_self hi] at hq
    exact hq
  · rw [if_neg ?_]
    · apply h
      rw [hqd, flat_row _ k hR (q / k) (q % k) hd hm]
      rw [List.getD_eq_getElem?_getD, List.getElem?_set_ne (fun e => hqi e.symm), ← List.getD_eq_getElem?_getD] at hq
      exact hq
    · rintro ⟨h1, h2⟩
      rw [hr] at h2
      apply hqi
      have h3 : q / k < i + 1 := Nat.div_lt_of_lt_mul (by rw [Nat.mul_add, Nat.mul_one]; exact h2)
      have h4 : i ≤ q / k := (Nat.le_div_iff_mul_le hk).2 (by rw [Nat.mul_comm]; exact h1)
      omega
theorem cov_range {w : World} {g : Nat} {C L : List Value} {t : TypeId} (h : w.heap[g]? = some (.cells C.toArray t (0, 0))) (hc : Cov C L) : w.rangeAt g 0 L := fun j x hj => by
  rw [Nat.zero_add]
  exact cell_of h (by rw [List.getElem?_toArray]; exact hc j x hj)
theorem lt_b : Lt 22 36 64 64 := by
  obtain ⟨i, h1, h2, h3, h4⟩ := info_parts Tryz.infoBz
  exact ⟨Tryz.underlying22, ⟨i, _, h1, h2, h3, h4, rfl⟩, by decide, by decide⟩
theorem bv_one' (b : List Int) : ∀ u ∈ bv b, u.oneCell' = true := by
  intro u hu
  obtain ⟨x, _, rfl⟩ := List.mem_map.1 hu
  rfl
theorem wv_one' (x : Nat × List Int) : ∀ u ∈ wv x, u.oneCell' = true := by
  intro u hu
  unfold wv at hu
  rcases List.mem_cons.1 hu with rfl | hu
  · rfl
  · exact bv_one' _ u hu
theorem bv_rows {S : List (List Int)} (h : ∀ b ∈ S, BB b) : ∀ r ∈ S.map bv, r.length = 64 := by
  intro r hr
  obtain ⟨b, hb, rfl⟩ := List.mem_map.1 hr
  rw [bv_len]
  exact (h b hb).1
theorem done_form (S : List (List Int)) (P : List (Nat × List Int)) (dd : Bool) (lf : Int) (os : Nat) : ∃ dd2 lf2 os2, (Dk.mk S P dd lf os).doneD = Dk.mk S P dd2 lf2 os2 := by
  unfold Dk.doneD
  split
  · exact ⟨_, _, _, rfl⟩
  · exact ⟨_, _, _, rfl⟩
theorem list32 : ∀ (M : List Int), M.length = 32 → ∃ x0 x1 x2 x3 x4 x5 x6 x7 x8 x9 x10 x11 x12 x13 x14 x15 x16 x17 x18 x19 x20 x21 x22 x23 x24 x25 x26 x27 x28 x29 x30 x31, M = [x0, x1, x2, x3, x4, x5, x6, x7, x8, x9, x10, x11, x12, x13, x14, x15, x16, x17, x18, x19, x20, x21, x22, x23, x24, x25, x26, x27, x28, x29, x30, x31]
  | [x0, x1, x2, x3, x4, x5, x6, x7, x8, x9, x10, x11, x12, x13, x14, x15, x16, x17, x18, x19, x20, x21, x22, x23, x24, x25, x26, x27, x28, x29, x30, x31], _ => ⟨_, _, _, _, _, _, _, _, _, _, _, _, _, _, _, _, _, _, _, _, _, _, _, _, _, _, _, _, _, _, _, _, rfl⟩
theorem list64 (M : List Int) (h : M.length = 64) : ∃ p0 p1 p2 p3 p4 p5 p6 p7 p8 p9 p10 p11 p12 p13 p14 p15 p16 p17 p18 p19 p20 p21 p22 p23 p24 p25 p26 p27 p28 p29 p30 p31 q0 q1 q2 q3 q4 q5 q6 q7 q8 q9 q10 q11 q12 q13 q14 q15 q16 q17 q18 q19 q20 q21 q22 q23 q24 q25 q26 q27 q28 q29 q30 q31, M = ([p0, p1, p2, p3, p4, p5, p6, p7, p8, p9, p10, p11, p12, p13, p14, p15, p16, p17, p18, p19, p20, p21, p22, p23, p24, p25, p26, p27, p28, p29, p30, p31] ++ [q0, q1, q2, q3, q4, q5, q6, q7, q8, q9, q10, q11, q12, q13, q14, q15, q16, q17, q18, q19, q20, q21, q22, q23, q24, q25, q26, q27, q28, q29, q30, q31]) := by
  obtain ⟨p0, p1, p2, p3, p4, p5, p6, p7, p8, p9, p10, p11, p12, p13, p14, p15, p16, p17, p18, p19, p20, p21, p22, p23, p24, p25, p26, p27, p28, p29, p30, p31, hA⟩ := list32 (M.take 32) (by rw [List.length_take]; omega)
  obtain ⟨q0, q1, q2, q3, q4, q5, q6, q7, q8, q9, q10, q11, q12, q13, q14, q15, q16, q17, q18, q19, q20, q21, q22, q23, q24, q25, q26, q27, q28, q29, q30, q31, hB⟩ := list32 (M.drop 32) (by rw [List.length_drop]; omega)
  exact ⟨p0, p1, p2, p3, p4, p5, p6, p7, p8, p9, p10, p11, p12, p13, p14, p15, p16, p17, p18, p19, p20, p21, p22, p23, p24, p25, p26, p27, p28, p29, p30, p31, q0, q1, q2, q3, q4, q5, q6, q7, q8, q9, q10, q11, q12, q13, q14, q15, q16, q17, q18, q19, q20, q21, q22, q23, q24, q25, q26, q27, q28, q29, q30, q31, by rw [← hA, ← hB, List.take_append_drop]⟩
theorem Tryz.cells_b : Tryz.prog.cellsOf 5 = 1 := by kernel_rfl
theorem Tryz.info_b : (Tryz.prog.info? 5).map (fun i => (i.zero, i.size, i.bytes)) = some (some (.int .u8 0), 1, 1) := by kernel_rfl
theorem Tryz.plain_b : Tryz.prog.plainKey 5 = true := by kernel_rfl
theorem eqs_b (k m : List Int) (hl : k.length = m.length) (d : Nat) (is : List Nat) (h : ∀ i ∈ is, i < k.length) (w : World) : (Op.eqItems (d + 1) 5 1 (kc k) (kc m) is).run Tryz.prog w = .ok (decide (∀ i ∈ is, k.getD i 0 = m.getD i 0)) w := by
  induction is with
  | nil => simp [Op.eqItems]
  | cons i is ih =>
    have hi : i < k.length := h i (by simp)
    have hp : ∀ m : List Int, i < m.length → (part 5 (kc m) (i * 1)).run Tryz.prog w = .ok (.int .u8 (m.getD i 0)) w := by
      intro m hm
      refine run_part_plain w Tryz.plain_b ?_
      simp [kc, List.getD, List.getElem?_eq_getElem hm]
    have he := run_equalIn_int (P := Tryz.prog) w d 5 .u8 .u8 (k.getD i 0) (m.getD i 0) Tryz.underlying5
    simp only [Op.eqItems, Sem.run_bind, hp k hi, hp m (by omega), he, Result.andThen_ok]
    have ih := ih (fun j hj => h j (List.mem_cons_of_mem _ hj))
    by_cases hq : k.getD i 0 = m.getD i 0
    · simp only [hq, beq_self_eq_true, if_true, List.mem_cons, forall_eq_or_imp, true_and]
      exact ih
    · have hq2 : (k.getD i 0 == m.getD i 0) = false := by simpa using hq
      simp only [hq2, List.mem_cons, forall_eq_or_imp, hq, false_and, decide_false]
      rfl
theorem eq_B (k m : List Int) (hk : k.length = 64) (hm : m.length = 64) (w : World) : Sem.run Tryz.prog (Op.equalIn 10000 36 (.agg (kc k)) (.agg (kc m))) w = .ok (decide (k = m)) w := by
  obtain ⟨i0, hi0, _⟩ := info_parts Tryz.info_b
  rw [run_equalIn_array (P := Tryz.prog) w 9999 (kc k) (kc m) Tryz.underlying36 hi0, Tryz.cells_b]
  refine (eqs_b k m (by omega) 9998 _ (by intro i hi; simp at hi; omega) w).trans ?_
  congr 1
  rw [decide_eq_decide]
  constructor
  · intro h
    exact list_ext (by omega) fun i hi => h i (by simp; omega)
  · rintro rfl i _
    rfl
structure Chg (F F' : List Nat) (w v : World) : Prop where
  os : v.os = w.os
  tape : v.tape = w.tape
  output : v.output = w.output
  size : w.heap.size ≤ v.heap.size
  block : ∀ i, i < w.heap.size → i ∉ F → v.heap[i]? = w.heap[i]?
  new : ∀ i ∈ F', i ∈ F ∨ w.heap.size ≤ i
theorem Gr.chg0 {w v : World} (h : Gr w v) (F : List Nat) : Chg F F w v := ⟨h.os, h.tape, h.output, h.size, fun i hi _ => h.block i hi, fun i hi => .inl hi⟩
theorem Gr.chg {F F' : List Nat} {w u v : World} (h : Gr w u) (k : Chg F F' u v) : Chg F F' w v :=
  ⟨k.os.trans h.os, k.tape.trans h.tape, k.output.trans h.output, Nat.le_trans h.size k.size, fun i hi hn => (k.block i (Nat.lt_of_lt_of_le hi h.size) hn).trans (h.block i hi), fun i hi => (k.new i hi).imp id (Nat.le_trans h.size)⟩
theorem Chg.gr {F F' : List Nat} {w u v : World} (h : Chg F F' w u) (k : Gr u v) : Chg F F' w v :=
  ⟨k.os.trans h.os, k.tape.trans h.tape, k.output.trans h.output, Nat.le_trans h.size k.size, fun i hi hn => (k.block i (Nat.lt_of_lt_of_le hi h.size)).trans (h.block i hi hn), h.new⟩
theorem Chg.bt {F F' : List Nat} {w u v : World} {b : Nat} (h : Chg F F' w u) (k : Bt b u v) (hb : w.heap.size ≤ b) : Chg F F' w v :=
  ⟨k.os.trans h.os, k.tape.trans h.tape, k.output.trans h.output, Nat.le_trans h.size k.size, fun i hi hn => (k.block i (Nat.lt_of_lt_of_le hi h.size) (by omega)).trans (h.block i hi hn), h.new⟩
theorem Chg.blk {F F' : List Nat} {w v : World} (h : Chg F F' w v) {b : Nat} {o : Obj} (hp : w.heap[b]? = some o) (hb : b ∉ F) : v.heap[b]? = some o := by rw [h.block b (lt_of_block hp) hb]; exact hp
theorem Chg.own {F F' : List Nat} {w u v : World} (h : Gr w u) (k : Chg F F' u v) (hF : ∀ i ∈ F, w.heap.size ≤ i) : Gr w v :=
  ⟨k.os.trans h.os, k.tape.trans h.tape, k.output.trans h.output, Nat.le_trans h.size k.size, fun i hi => (k.block i (Nat.lt_of_lt_of_le hi h.size) (fun hm => by have := hF i hm; omega)).trans (h.block i hi)⟩
theorem Chg.bt2 {F : List Nat} {w u v : World} {b : Nat} (h : Chg F F w u) (k : Bt b u v) (hb : b ∈ F ∨ w.heap.size ≤ b) : Chg F F w v :=
  ⟨k.os.trans h.os, k.tape.trans h.tape, k.output.trans h.output, Nat.le_trans h.size k.size, fun i hi hn => (k.block i (Nat.lt_of_lt_of_le hi h.size) (by
    rintro rfl
    rcases hb with hb | hb
    · exact hn hb
    · omega)).trans (h.block i hi hn), fun i hi => .inl hi⟩
theorem Chg.trans {F : List Nat} {w u v : World} (h : Chg F F w u) (k : Chg F F u v) : Chg F F w v :=
  ⟨k.os.trans h.os, k.tape.trans h.tape, k.output.trans h.output, Nat.le_trans h.size k.size, fun i hi hn => (k.block i (Nat.lt_of_lt_of_le hi h.size) hn).trans (h.block i hi hn), fun i hi => .inl hi⟩
theorem Chg.wide {F G F' : List Nat} {w v : World} (h : Chg F F w v) (hs : ∀ i ∈ F, i ∈ G) (hn : ∀ i ∈ F', i ∈ G ∨ w.heap.size ≤ i) : Chg G F' w v :=
  ⟨h.os, h.tape, h.output, h.size, fun i hi hm => h.block i hi (fun e => hm (hs i e)), hn⟩
theorem Chg.cell {F F' : List Nat} {w v : World} (h : Chg F F' w v) {p o : Nat} {x : Value} (hp : w.cell? ⟨p, o, none⟩ = some x) (hb : p ∉ F) : v.cell? ⟨p, o, none⟩ = some x := by
  rw [cell_heap (h.block p (lt_of_cell hp) hb)]; exact hp
def bare (w : World) : World := { w with heap := #[] }
structure Bc (F : List Nat) (w : World) (L : List Blk) (v : World) : Prop where
  bl : Bl (bare w) L v
  chg : Chg F F w v
  fo : ∀ x ∈ L, x.g ∈ F ∨ w.heap.size ≤ x.g
theorem fo_set {P : Nat → Prop} {L : List Blk} (h : ∀ x ∈ L, P x.g) (i : Nat) {x : Blk} (hi : L[i]? = some x) (c : Array Value) (t : TypeId) : ∀ y ∈ L.set i ⟨x.g, c, t⟩, P y.g := fun y hy =>
  (List.mem_or_eq_of_mem_set hy).elim (h y) (fun e => by rw [e]; exact h x (List.mem_of_getElem? hi))
theorem Bc.get {F : List Nat} {w v : World} {L : List Blk} (h : Bc F w L v) (i : Nat) {x : Blk} (hi : L[i]? = some x) : v.heap[x.g]? = some (.cells x.c x.t (0, 0)) := h.bl.get i hi
theorem Bc.own {F : List Nat} {w v : World} {L : List Blk} (h : Bc F w L v) (i : Nat) {x : Blk} (hi : L[i]? = some x) : x.g ∈ F ∨ w.heap.size ≤ x.g := h.fo x (List.mem_of_getElem? hi)
theorem Bc.more {F : List Nat} {w u v : World} {L : List Blk} (h : Bc F w L u) (k : Gr u v) : Bc F w L v := ⟨h.bl.more k, h.chg.gr k, h.fo⟩
theorem Bc.drew {F : List Nat} {w v : World} {L : List Blk} (h : Bc F w L v) : Bc F w L v.drew := h.more (Gr.refl v).drew
theorem Bc.cell {F : List Nat} {w v : World} {L : List Blk} (h : Bc F w L v) (k : Nat) {x : Blk} (hk : L[k]? = some x) (i : Nat) (y : Value) : Bc F w (L.set k ⟨x.g, x.c.setIfInBounds i y, x.t⟩) (v.setCell ⟨x.g, i, none⟩ y) :=
  ⟨h.bl.cell k hk i y, h.chg.bt2 (Bt.setCell v i y) (h.own k hk), fo_set (P := fun g => g ∈ F ∨ w.heap.size ≤ g) h.fo k hk _ _⟩
theorem Bc.set {F : List Nat} {w v : World} {L : List Blk} (h : Bc F w L v) (k : Nat) {x : Blk} (hk : L[k]? = some x) (c : Array Value) : Bc F w (L.set k ⟨x.g, c, x.t⟩) (v.setRow x.g c) :=
  ⟨h.bl.set k hk c, h.chg.bt2 ((Bt.refl x.g v).row_self c) (h.own k hk), fo_set (P := fun g => g ∈ F ∨ w.heap.size ≤ g) h.fo k hk _ _⟩
theorem Bc.but {F : List Nat} {w u v : World} {L : List Blk} (h : Bc F w L u) {g : Nat} (k : Bt g u v) (i : Nat) {x : Blk} (hi : L[i]? = some x) (hx : x.g = g) {c : Array Value} (hc : v.heap[g]? = some (.cells c x.t (0, 0))) : Bc F w (L.set i ⟨g, c, x.t⟩) v := by
  subst hx
  exact ⟨h.bl.but k i hi rfl hc, h.chg.bt2 k (h.own i hi), fo_set (P := fun g => g ∈ F ∨ w.heap.size ≤ g) h.fo i hi _ _⟩
theorem Bc.new {F : List Nat} {w v : World} {L : List Blk} (h : Bc F w L v) (c : Array Value) (t : TypeId) : Bc F w (L ++ [⟨v.heap.size, c, t⟩]) (v.alloc (.cells c t (0, 0))) :=
  ⟨h.bl.new c t, h.chg.gr ((Gr.refl v).alloc _), fun x hx => (List.mem_append.1 hx).elim (h.fo x) (fun e => by rw [List.mem_singleton] at e; rw [e]; exact .inr h.chg.size)⟩
theorem Bc.left {F : List Nat} {w v : World} {L M : List Blk} (h : Bc F w (L ++ M) v) : Bc F w L v := ⟨h.bl.left, h.chg, fun x hx => h.fo x (List.mem_append_left _ hx)⟩
theorem Bc.nil (F : List Nat) (w : World) : Bc F w [] w := ⟨⟨⟨rfl, rfl, rfl, Nat.zero_le _, fun i hi => absurd hi (Nat.not_lt_zero i)⟩, (fun _ h => by cases h), List.Pairwise.nil⟩, (Gr.refl w).chg0 F, fun _ h => by cases h⟩
theorem Bc.add {F : List Nat} {w v : World} {L : List Blk} (h : Bc F w L v) (x : Blk) (hx : v.heap[x.g]? = some x.obj) (hw : x.g ∈ F ∨ w.heap.size ≤ x.g) (hn : ∀ y ∈ L, y.g ≠ x.g) : Bc F w (L ++ [x]) v :=
  ⟨h.bl.add x hx (Nat.zero_le _) hn, h.chg, fun y hy => (List.mem_append.1 hy).elim (h.fo y) (fun e => by rw [List.mem_singleton] at e; rw [e]; exact hw)⟩
theorem ty_ne {v : World} {a b : Nat} {c d : Array Value} {s t : TypeId} (ha : v.heap[a]? = some (.cells c s (0, 0))) (hb : v.heap[b]? = some (.cells d t (0, 0))) (hn : s ≠ t) : a ≠ b := by
  rintro rfl
  rw [ha] at hb
  have := Option.some.inj hb
  injection this with _ h6 _
  exact hn h6
def pdv (sa : Option Addr) (sn sc : Nat) (pa : Option Addr) (pn pc : Nat) (l : Int) (o : Nat) (d : Bool) : Array Value := #[.slice sa sn sc, .slice pa pn pc, .int .i64 l, .int .i64 (o : Int), .bool d]
def Lf (x l : Int) : Prop := (x < 0 → l < 0 ∧ -9223372036854775808 ≤ l) ∧ (0 ≤ x → l = x)
theorem Lf.refl (x : Int) (h : -9223372036854775808 ≤ x) : Lf x x := ⟨fun e => ⟨e, h⟩, fun _ => rfl⟩
structure Pd (g : Nat) (D : Dk) (v : World) (sg sc : Nat) (C : List Value) (pa : Option Addr) (pc : Nat) (l : Int) : Prop where
  cel : v.heap[g]? = some (.cells (pdv (some ⟨sg, 0, none⟩) D.safe.length sc pa D.pend.length pc l D.ops D.dead) 102 (0, 0))
  saf : v.heap[sg]? = some (.cells C.toArray 36 (0, 0))
  cov : Cov C (D.safe.map bv).flatten
  len : C.length = sc * 64
  cap : D.safe.length ≤ sc
  max : sc ≤ maxLen
  pnd : Or_ 65 119 0 v (.slice pa D.pend.length pc) (D.pend.map wv)
  lf : Lf D.left l
def pdF (g sg : Nat) (pa : Option Addr) : List Nat := g :: sg :: (blkOf pa).toList
def Lies (F : List Nat) (g : Nat) (D : Dk) (v : World) : Prop := ∃ sg sc C pa pc l, Pd g D v sg sc C pa pc l ∧ F = pdF g sg pa
theorem mem_pdF {g sg i : Nat} {pa : Option Addr} : i ∈ pdF g sg pa ↔ i = g ∨ i = sg ∨ blkOf pa = some i := by
  unfold pdF
  simp [Option.mem_toList]
theorem or_blk_lt {k : Nat} {e : TypeId} {b : Nat} {w : World} {a : Option Addr} {n c : Nat} {R : List (List Value)} (h : Or_ k e b w (.slice a n c) R) {i : Nat} (hi : blkOf a = some i) : ∃ cur, w.heap[i]? = some (.cells cur e (0, 0)) := by
  rcases h.2.2 with ⟨h1, _⟩ | ⟨g, cap, cur, h1, _, h3, _⟩
  · injection h1 with h1 _ _
    rw [h1] at hi
    cases hi
  · injection h1 with h1 _ _
    rw [h1] at hi
    have : g = i := by simpa [blkOf] using hi
    subst this
    exact ⟨cur, h3⟩
theorem or_keep {k : Nat} {e : TypeId} {b : Nat} {w u : World} {a : Option Addr} {n c : Nat} {R : List (List Value)} (h : Or_ k e b w (.slice a n c) R) (hk : ∀ i, blkOf a = some i → u.heap[i]? = w.heap[i]?) : Or_ k e b u (.slice a n c) R := by
  refine ⟨h.1, h.2.1, ?_⟩
  rcases h.2.2 with ⟨h1, h2⟩ | ⟨g, cap, cur, h1, h2, h3, h4⟩
  · exact .inl ⟨h1, h2⟩
  · refine .inr ⟨g, cap, cur, h1, h2, ?_, h4⟩
    injection h1 with h1 _ _
    rw [hk g (by rw [h1]; rfl)]
    exact h3
theorem Pd.keep {g : Nat} {D : Dk} {v u : World} {sg sc : Nat} {C : List Value} {pa : Option Addr} {pc : Nat} {l : Int} (h : Pd g D v sg sc C pa pc l) (k : ∀ i ∈ pdF g sg pa, u.heap[i]? = v.heap[i]?) : Pd g D u sg sc C pa pc l :=
  ⟨(k g (mem_pdF.2 (.inl rfl))).trans h.cel, (k sg (mem_pdF.2 (.inr (.inl rfl)))).trans h.saf, h.cov, h.len, h.cap, h.max, or_keep h.pnd (fun i hi => k i (mem_pdF.2 (.inr (.inr hi)))), h.lf⟩
theorem Pd.lt {g : Nat} {D : Dk} {v : World} {sg sc : Nat} {C : List Value} {pa : Option Addr} {pc : Nat} {l : Int} (h : Pd g D v sg sc C pa pc l) : ∀ i ∈ pdF g sg pa, i < v.heap.size := by
  intro i hi
  rcases mem_pdF.1 hi with rfl | rfl | hi
  · exact lt_of_block h.cel
  · exact lt_of_block h.saf
  · obtain ⟨cur, hc⟩ := or_blk_lt h.pnd hi
    exact lt_of_block hc
theorem Pd.gr {g : Nat} {D : Dk} {v u : World} {sg sc : Nat} {C : List Value} {pa : Option Addr} {pc : Nat} {l : Int} (h : Pd g D v sg sc C pa pc l) (k : Gr v u) : Pd g D u sg sc C pa pc l :=
  h.keep (fun i hi => k.block i (h.lt i hi))
theorem Lies.lt {F : List Nat} {g : Nat} {D : Dk} {v : World} (h : Lies F g D v) : ∀ i ∈ F, i < v.heap.size := by
  obtain ⟨sg, sc, C, pa, pc, l, h, rfl⟩ := h
  exact h.lt
theorem Lies.keep {F : List Nat} {g : Nat} {D : Dk} {v u : World} (h : Lies F g D v) (hs : v.heap.size ≤ u.heap.size) (k : ∀ i ∈ F, u.heap[i]? = v.heap[i]?) : Lies F g D u := by
  obtain ⟨sg, sc, C, pa, pc, l, h, rfl⟩ := h
  exact ⟨sg, sc, C, pa, pc, l, h.keep k, rfl⟩
theorem Pd.sg_ne {g : Nat} {D : Dk} {v : World} {sg sc : Nat} {C : List Value} {pa : Option Addr} {pc : Nat} {l : Int} (h : Pd g D v sg sc C pa pc l) : g ≠ sg := ty_ne h.cel h.saf (by decide)
theorem Pd.pg_ne {g : Nat} {D : Dk} {v : World} {sg sc : Nat} {C : List Value} {pa : Option Addr} {pc : Nat} {l : Int} (h : Pd g D v sg sc C pa pc l) {i : Nat} (hi : blkOf pa = some i) : i ≠ g ∧ i ≠ sg := by
  obtain ⟨cur, hc⟩ := or_blk_lt h.pnd hi
  exact ⟨ty_ne hc h.cel (by decide), ty_ne hc h.saf (by decide)⟩
theorem Pd.sls {g : Nat} {D : Dk} {v : World} {sg sc : Nat} {C : List Value} {pa : Option Addr} {pc : Nat} {l : Int} (h : Pd g D v sg sc C pa pc l) {m : Nat} (hD : D.Ok m) : Ls 64 v (some ⟨sg, 0, none⟩) D.safe.length sc (D.safe.map bv) :=
  ⟨List.length_map .., bv_rows hD.blk, .inr ⟨sg, 0, rfl, cov_range h.saf h.cov⟩, h.cap, by have := h.max; unfold maxLen at this; omega, fun p e => by have e3 := Option.some.inj e; rw [← e3]; exact lt_of_block h.saf⟩
theorem Pd.pls {g : Nat} {D : Dk} {v : World} {sg sc : Nat} {C : List Value} {pa : Option Addr} {pc : Nat} {l : Int} (h : Pd g D v sg sc C pa pc l) : Ls 65 v pa D.pend.length pc (D.pend.map wv) := by
  obtain ⟨a, c, e, hl⟩ := h.pnd.ls
  rw [List.length_map] at e hl
  injection e with e1 _ e3
  rw [e1, e3]
  exact hl
theorem Pd.two {g : Nat} {D : Dk} {v : World} {sg sc : Nat} {C : List Value} {pa : Option Addr} {pc : Nat} {l : Int} (h : Pd g D v sg sc C pa pc l) {F : List Nat} (hg : g ∈ F) (hs : sg ∈ F) :
    Bc F v [⟨g, pdv (some ⟨sg, 0, none⟩) D.safe.length sc pa D.pend.length pc l D.ops D.dead, 102⟩, ⟨sg, C.toArray, 36⟩] v := by
  have h1 := (Bc.nil F v).add ⟨g, pdv (some ⟨sg, 0, none⟩) D.safe.length sc pa D.pend.length pc l D.ops D.dead, 102⟩ h.cel (.inl hg) (fun y hy => by cases hy)
  exact h1.add ⟨sg, C.toArray, 36⟩ h.saf (.inl hs) (fun y hy => by
    simp only [List.nil_append, List.mem_singleton] at hy
    rw [hy]
    exact h.sg_ne)
abbrev P0 (g : Nat) : Value := .pointer (some ⟨g, 0, none⟩)
def Vl (v : Value) (w : World) (r : Ending) (w' : World) : Prop := r = .returned v ∧ Gr w w'
def Ch (F : List Nat) (g : Nat) (D : Dk) (e : Int) (w : World) (r : Ending) (w' : World) : Prop := ∃ F', r = .returned (.int .i64 e) ∧ Lies F' g D w' ∧ Chg F F' w w'
theorem Tryz.infoPW : (Tryz.prog.info? 119).map (·.size) = some 65 := by kernel_rfl
theorem Tryz.infoPWz : (Tryz.prog.info? 119).map (fun i => (i.zero, i.size, i.bytes)) = some (some (.agg (wv (0, ZB)).toArray), 65, 72) := by kernel_rfl
theorem lt_pw : Lt 100 119 65 72 := by
  obtain ⟨i, h1, h2, h3, h4⟩ := info_parts Tryz.infoPWz
  exact ⟨Tryz.underlying100, ⟨i, _, h1, h2, h3, h4, rfl⟩, by decide, by decide⟩
theorem exec_spw {op : Oper} {a : Act} (w : World) (x : Operand) (ho : op.op = .load 100 x) (g i : Nat) (hx : a.eval x = .pointer (some ⟨g, i, none⟩)) (s : Option Addr) (n c : Nat) (hc : w.cell? ⟨g, i, none⟩ = some (.slice s n c)) : (execOp a.eval op).run Tryz.prog w = .ok (.value (.slice s n c)) w := by
  unfold execOp
  simp only [ho, hx, Instr.loadAt, Instr.sureAddr, Sem.run_bind, Sem.run_pure, Result.andThen_ok]
  go_simp
theorem exec_ipw {a : Act} {o : Oper} (w : World) (x y : Operand) (ho : o.op = .indexAddr 100 x y) (g q len cap i : Nat) (hx : a.eval x = .slice (some ⟨g, q, none⟩) len cap) (hy : a.eval y = .int .i64 i) (hi : i < len) :
    (execOp a.eval o).run Tryz.prog w = .ok (.value (.pointer (some ⟨g, q + 65 * i, none⟩))) w := by
  have h1 : (i : Int) < (len : Int) := by omega
  unfold execOp
  simp only [ho, hx, hy]
  go_simp
set_option maxHeartbeats 4000000 in
theorem power_ok (g : Nat) (D : Dk) (sg sc : Nat) (C : List Value) (pa : Option Addr) (pc : Nat) (l : Int) (w : World) (hP : Pd g D w sg sc C pa pc l) : Calls Tryz.prog 51 #[P0 g] w (Vl (.int .i64 (if D.dead then 7 else 0)) w) := by
  obtain ⟨T, hT⟩ : ∃ T, T = Vl (.int .i64 (if D.dead then 7 else 0)) w := ⟨_, rfl⟩
  rw [← hT]
  replace hT := hide hT
  obtain ⟨dd, hdd⟩ : ∃ x, x = D.dead := ⟨_, rfl⟩
  obtain ⟨sn, hsn⟩ : ∃ n, n = D.safe.length := ⟨_, rfl⟩
  obtain ⟨pn, hpn⟩ : ∃ n, n = D.pend.length := ⟨_, rfl⟩
  obtain ⟨os, hos⟩ : ∃ n, n = D.ops := ⟨_, rfl⟩
  have hcl := hP.cel
  rw [← hdd, ← hsn, ← hpn, ← hos] at hcl
  replace hdd := hide hdd; replace hsn := hide hsn; replace hpn := hide hpn; replace hos := hide hos; replace hcl := hide hcl; replace hP := hide hP
  go_enter Tryz.func51, Tryz.ntmps51
  go_upto_region 1 with fail
  refine wp_region_lit ?_
  refine list_val (.pointer (some ⟨g, 0, none⟩)) (by kernel_rfl) (by kernel_rfl) ?_
  simp only [nrm]
  refine list_val (.bool false) (by kernel_rfl) (by kernel_rfl) ?_
  simp only [nrm]
  refine wpList_nil ?_
  go_upto_region 3 with fail
  refine wp_region_lit ?_
  refine list_val (.pointer (some ⟨g, 0, none⟩)) (by kernel_rfl) (by kernel_rfl) ?_
  simp only [nrm]
  refine list_val (.pointer (some ⟨g, 0, none⟩)) (by kernel_rfl) (by kernel_rfl) ?_
  simp only [nrm]
  refine list_val (.pointer (some ⟨g, 4, none⟩)) (by kernel_rfl) (by kernel_rfl) ?_
  simp only [nrm]
  refine list_val (.bool dd) (by kernel_rfl) (exec_bool _ (.tmp 7) rfl g 4 (by kernel_rfl) dd (cell_of (unhide hcl) (i := 4) rfl)) ?_
  simp only [nrm]
  refine wpList_nil ?_
  cases dd
  case true =>
    have hZ : Hid (Vl (.int .i64 (if D.dead then 7 else 0)) w (.returned (.int .i64 7)) w) := ⟨by rw [← unhide hdd]; rfl, Gr.refl w⟩
    go_wp2_with fail
    rw [unhide hT]
    exact unhide hZ
  case false =>
    have hZ : Hid (Vl (.int .i64 (if D.dead then 7 else 0)) w (.returned (.int .i64 0)) w) := ⟨by rw [← unhide hdd]; rfl, Gr.refl w⟩
    go_wp2_with fail
    rw [unhide hT]
    exact unhide hZ
set_option maxHeartbeats 4000000 in
theorem dlen_p (g : Nat) (D : Dk) (sg sc : Nat) (C : List Value) (pa : Option Addr) (pc : Nat) (l : Int) (w : World) (hP : Pd g D w sg sc C pa pc l) : Calls Tryz.prog 79 #[P0 g] w (Vl (.int .i64 (D.safe.length : Int)) w) := by
  obtain ⟨T, hT⟩ : ∃ T, T = Vl (.int .i64 (D.safe.length : Int)) w := ⟨_, rfl⟩
  rw [← hT]
  replace hT := hide hT
  obtain ⟨dd, hdd⟩ : ∃ x, x = D.dead := ⟨_, rfl⟩
  obtain ⟨sn, hsn⟩ : ∃ n, n = D.safe.length := ⟨_, rfl⟩
  obtain ⟨pn, hpn⟩ : ∃ n, n = D.pend.length := ⟨_, rfl⟩
  obtain ⟨os, hos⟩ : ∃ n, n = D.ops := ⟨_, rfl⟩
  have hcl := hP.cel
  rw [← hdd, ← hsn, ← hpn, ← hos] at hcl
  replace hdd := hide hdd; replace hsn := hide hsn; replace hpn := hide hpn; replace hos := hide hos; replace hcl := hide hcl; replace hP := hide hP
  go_enter Tryz.func79, Tryz.ntmps79
  go_upto_region 1 with fail
  refine wp_region_lit ?_
  refine list_val (.pointer (some ⟨g, 0, none⟩)) (by kernel_rfl) (by kernel_rfl) ?_
  simp only [nrm]
  refine list_val (.bool false) (by kernel_rfl) (by kernel_rfl) ?_
  simp only [nrm]
  refine wpList_nil ?_
  go_upto_region 3 with fail
  refine wp_region_lit ?_
  refine list_val (.pointer (some ⟨g, 0, none⟩)) (by kernel_rfl) (by kernel_rfl) ?_
  simp only [nrm]
  refine list_val (.pointer (some ⟨g, 0, none⟩)) (by kernel_rfl) (by kernel_rfl) ?_
  simp only [nrm]
  refine list_val (.pointer (some ⟨g, 0, none⟩)) (by kernel_rfl) (by kernel_rfl) ?_
  simp only [nrm]
  refine list_val (.slice (some ⟨sg, 0, none⟩) sn sc) (by kernel_rfl) (exec_sb _ (.tmp 7) rfl g 0 (by kernel_rfl) (some ⟨sg, 0, none⟩) sn sc (cell_of (unhide hcl) (i := 0) rfl)) ?_
  simp only [nrm]
  refine list_val (.int .i64 sn) (by kernel_rfl) (by kernel_rfl) ?_
  simp only [nrm]
  (refine wpList_step fun K hK => ?_; replace hK := hide hK; go_simp; refine unhide hK _ _ ?_; clear hK K)
  refine wpList_nil ?_
  have hZ : Hid (Vl (.int .i64 (D.safe.length : Int)) w (.returned (.int .i64 (sn : Int))) w) := ⟨by rw [unhide hsn], Gr.refl w⟩
  go_wp2_with fail
  rw [unhide hT]
  exact unhide hZ
theorem dlen_ok (F : List Nat) (g m : Nat) (D : Dk) (hD : D.Ok m) (hm : m ≤ 1000000) (w : World) (h : Lies F g D w) : Calls Tryz.prog 79 #[P0 g] w (Vl (.int .i64 (D.safe.length : Int)) w) := by
  obtain ⟨sg, sc, C, pa, pc, l, h, rfl⟩ := h
  exact dlen_p g D sg sc C pa pc l w h
set_option maxHeartbeats 4000000 in
theorem ddead_p (g : Nat) (D : Dk) (sg sc : Nat) (C : List Value) (pa : Option Addr) (pc : Nat) (l : Int) (w : World) (hP : Pd g D w sg sc C pa pc l) : Calls Tryz.prog 48 #[P0 g] w (Vl (.bool D.dead) w) := by
  obtain ⟨T, hT⟩ : ∃ T, T = Vl (.bool D.dead) w := ⟨_, rfl⟩
  rw [← hT]
  replace hT := hide hT
  obtain ⟨dd, hdd⟩ : ∃ x, x = D.dead := ⟨_, rfl⟩
  obtain ⟨sn, hsn⟩ : ∃ n, n = D.safe.length := ⟨_, rfl⟩
  obtain ⟨pn, hpn⟩ : ∃ n, n = D.pend.length := ⟨_, rfl⟩
  obtain ⟨os, hos⟩ : ∃ n, n = D.ops := ⟨_, rfl⟩
  have hcl := hP.cel
  rw [← hdd, ← hsn, ← hpn, ← hos] at hcl
  replace hdd := hide hdd; replace hsn := hide hsn; replace hpn := hide hpn; replace hos := hide hos; replace hcl := hide hcl; replace hP := hide hP
  go_enter Tryz.func48, Tryz.ntmps48
  go_upto_region 1 with fail
  refine wp_region_lit ?_
  refine list_val (.pointer (some ⟨g, 0, none⟩)) (by kernel_rfl) (by kernel_rfl) ?_
  simp only [nrm]
  refine list_val (.bool true) (by kernel_rfl) (by kernel_rfl) ?_
  simp only [nrm]
  refine list_val (.bool true) (by kernel_rfl) (by kernel_rfl) ?_
  simp only [nrm]
  refine list_val (.pointer (some ⟨g, 0, none⟩)) (by kernel_rfl) (by kernel_rfl) ?_
  simp only [nrm]
  refine list_val (.pointer (some ⟨g, 0, none⟩)) (by kernel_rfl) (by kernel_rfl) ?_
  simp only [nrm]
  refine list_val (.pointer (some ⟨g, 4, none⟩)) (by kernel_rfl) (by kernel_rfl) ?_
  simp only [nrm]
  refine list_val (.bool dd) (by kernel_rfl) (exec_bool _ (.tmp 8) rfl g 4 (by kernel_rfl) dd (cell_of (unhide hcl) (i := 4) rfl)) ?_
  simp only [nrm]
  refine list_val (.bool dd) (by kernel_rfl) (by kernel_rfl) ?_
  simp only [nrm]
  (refine wpList_step fun K hK => ?_; replace hK := hide hK; go_simp; refine unhide hK _ _ ?_; clear hK K)
  refine wpList_nil ?_
  have hZ : Hid (Vl (.bool D.dead) w (.returned (.bool dd)) w) := ⟨by rw [unhide hdd], Gr.refl w⟩
  go_wp2_with fail
  rw [unhide hT]
  exact unhide hZ
theorem ddead_ok (F : List Nat) (g m : Nat) (D : Dk) (hD : D.Ok m) (hm : m ≤ 1000000) (w : World) (h : Lies F g D w) : Calls Tryz.prog 48 #[P0 g] w (Vl (.bool D.dead) w) := by
  obtain ⟨sg, sc, C, pa, pc, l, h, rfl⟩ := h
  exact ddead_p g D sg sc C pa pc l w h
set_option maxHeartbeats 4000000 in
theorem reach_ok (g : Nat) (D : Dk) (sg sc : Nat) (C : List Value) (pa : Option Addr) (pc : Nat) (l : Int) (i : Int) (w : World) (hP : Pd g D w sg sc C pa pc l) : Calls Tryz.prog 65 #[P0 g, .int .i64 i] w (Vl (.int .i64 (D.readE i)) w) := by
  obtain ⟨T, hT⟩ : ∃ T, T = Vl (.int .i64 (D.readE i)) w := ⟨_, rfl⟩
  rw [← hT]
  replace hT := hide hT
  obtain ⟨dd, hdd⟩ : ∃ x, x = D.dead := ⟨_, rfl⟩
  obtain ⟨sn, hsn⟩ : ∃ n, n = D.safe.length := ⟨_, rfl⟩
  obtain ⟨pn, hpn⟩ : ∃ n, n = D.pend.length := ⟨_, rfl⟩
  obtain ⟨os, hos⟩ : ∃ n, n = D.ops := ⟨_, rfl⟩
  have hcl := hP.cel
  rw [← hdd, ← hsn, ← hpn, ← hos] at hcl
  replace hdd := hide hdd; replace hsn := hide hsn; replace hpn := hide hpn; replace hos := hide hos; replace hcl := hide hcl; replace hP := hide hP
  go_enter Tryz.func65, Tryz.ntmps65
  go_upto_region 1 with fail
  refine wp_region_lit ?_
  refine list_val (.pointer (some ⟨g, 0, none⟩)) (by kernel_rfl) (by kernel_rfl) ?_
  simp only [nrm]
  refine list_call 51 #[.pointer (some ⟨g, 0, none⟩)] (by kernel_rfl) (by kernel_rfl) ((power_ok g D sg sc C pa pc l _ (unhide hP)).mono ?_)
  rintro r u1 ⟨rfl, hG⟩
  refine ⟨_, rfl, ?_⟩
  obtain ⟨pe, hpe⟩ : ∃ x : Int, x = if D.dead then 7 else 0 := ⟨_, rfl⟩
  rw [← hpe]
  replace hpe := hide hpe
  replace hcl := hide (hG.blk (unhide hcl))
  simp only [nrm]
  (refine wpList_step fun K hK => ?_; replace hK := hide hK; go_simp; refine unhide hK _ _ ?_; clear hK K)
  refine wpList_nil ?_
  cases hd2 : dd
  case true =>
    have hd3 : D.dead = true := by rw [← unhide hdd, hd2]
    have e7 : pe = 7 := by rw [unhide hpe, hd3]; rfl
    subst e7
    have hZ : Hid (Vl (.int .i64 (D.readE i)) w (.returned (.int .i64 (7))) u1) := ⟨by unfold Dk.readE; rw [hd3]; rfl, hG⟩
    replace hG := hide hG
    go_wp2_with fail
    rw [unhide hT]
    exact unhide hZ
  case false =>
    have hd3 : D.dead = false := by rw [← unhide hdd, hd2]
    have e7 : pe = 0 := by rw [unhide hpe, hd3]; rfl
    subst e7
    replace hd3 := hide hd3
    go_upto_region 4 with fail
    by_cases hi0 : i < 0
    · skip
      refine wp_region_lit ?_
      refine list_val (.int .i64 i) (by kernel_rfl) (by kernel_rfl) ?_
      simp only [nrm]
      refine list_val (.bool true) (by kernel_rfl) (by go_simp) ?_
      simp only [nrm]
      refine list_val (.bool true) (by kernel_rfl) (by kernel_rfl) ?_
      simp only [nrm]
      refine wpList_step fun K hK => ?_
      rw [if_neg (ne_true_of_eq_false (by kernel_rfl))]
      refine hK _ _ ?_
      clear hK K
      simp only [nrm]
      refine wpList_step fun K hK => ?_
      rw [if_neg (ne_true_of_eq_false (by kernel_rfl))]
      refine hK _ _ ?_
      clear hK K
      simp only [nrm]
      refine wpList_step fun K hK => ?_
      rw [if_neg (ne_true_of_eq_false (by kernel_rfl))]
      refine hK _ _ ?_
      clear hK K
      simp only [nrm]
      refine wpList_step fun K hK => ?_
      rw [if_neg (ne_true_of_eq_false (by kernel_rfl))]
      refine hK _ _ ?_
      clear hK K
      simp only [nrm]
      refine wpList_step fun K hK => ?_
      rw [if_neg (ne_true_of_eq_false (by kernel_rfl))]
      refine hK _ _ ?_
      clear hK K
      simp only [nrm]
      refine wpList_step fun K hK => ?_
      rw [if_neg (ne_true_of_eq_false (by kernel_rfl))]
      refine hK _ _ ?_
      clear hK K
      simp only [nrm]
      refine wpList_step fun K hK => ?_
      rw [if_neg (ne_true_of_eq_false (by kernel_rfl))]
      refine hK _ _ ?_
      clear hK K
      simp only [nrm]
      refine list_val (.bool true) (by kernel_rfl) (by kernel_rfl) ?_
      simp only [nrm]
      refine wpList_nil ?_
      have hZ : Hid (Vl (.int .i64 (D.readE i)) w (.returned (.int .i64 (2))) u1) := ⟨by have h : ¬ D.has i := (by unfold Dk.has; rw [← unhide hsn]; omega); unfold Dk.readE; rw [unhide hd3]; simp [h], hG⟩
      replace hG := hide hG
      go_wp2_with fail
      rw [unhide hT]
      exact unhide hZ
    by_cases hi1 : (sn : Int) ≤ i
    · skip
      refine wp_region_lit ?_
      refine list_val (.int .i64 i) (by kernel_rfl) (by kernel_rfl) ?_
      simp only [nrm]
      refine list_val (.bool false) (by kernel_rfl) (by go_simp) ?_
      simp only [nrm]
      refine list_val (.bool false) (by kernel_rfl) (by kernel_rfl) ?_
      simp only [nrm]
      refine list_val (.int .i64 i) (by kernel_rfl) (by kernel_rfl) ?_
      simp only [nrm]
      refine list_val (.pointer (some ⟨g, 0, none⟩)) (by kernel_rfl) (by kernel_rfl) ?_
      simp only [nrm]
      refine list_val (.pointer (some ⟨g, 0, none⟩)) (by kernel_rfl) (by kernel_rfl) ?_
      simp only [nrm]
      refine list_val (.pointer (some ⟨g, 0, none⟩)) (by kernel_rfl) (by kernel_rfl) ?_
      simp only [nrm]
      refine list_val (.slice (some ⟨sg, 0, none⟩) sn sc) (by kernel_rfl) (exec_sb _ (.tmp 17) rfl g 0 (by kernel_rfl) (some ⟨sg, 0, none⟩) sn sc (cell_of (unhide hcl) (i := 0) rfl)) ?_
      simp only [nrm]
      refine list_val (.int .i64 sn) (by kernel_rfl) (by kernel_rfl) ?_
      simp only [nrm]
      refine list_val (.bool true) (by kernel_rfl) (by go_simp) ?_
      simp only [nrm]
      refine list_val (.bool true) (by kernel_rfl) (by kernel_rfl) ?_
      simp only [nrm]
      refine wpList_nil ?_
      have hZ : Hid (Vl (.int .i64 (D.readE i)) w (.returned (.int .i64 (2))) u1) := ⟨by have h : ¬ D.has i := (by unfold Dk.has; rw [← unhide hsn]; omega); unfold Dk.readE; rw [unhide hd3]; simp [h], hG⟩
      replace hG := hide hG
      go_wp2_with fail
      rw [unhide hT]
      exact unhide hZ
    refine wp_region_lit ?_
    refine list_val (.int .i64 i) (by kernel_rfl) (by kernel_rfl) ?_
    simp only [nrm]
    refine list_val (.bool false) (by kernel_rfl) (by go_simp) ?_
    simp only [nrm]
    refine list_val (.bool false) (by kernel_rfl) (by kernel_rfl) ?_
    simp only [nrm]
    refine list_val (.int .i64 i) (by kernel_rfl) (by kernel_rfl) ?_
    simp only [nrm]
    refine list_val (.pointer (some ⟨g, 0, none⟩)) (by kernel_rfl) (by kernel_rfl) ?_
    simp only [nrm]
    refine list_val (.pointer (some ⟨g, 0, none⟩)) (by kernel_rfl) (by kernel_rfl) ?_
    simp only [nrm]
    refine list_val (.pointer (some ⟨g, 0, none⟩)) (by kernel_rfl) (by kernel_rfl) ?_
    simp only [nrm]
    refine list_val (.slice (some ⟨sg, 0, none⟩) sn sc) (by kernel_rfl) (exec_sb _ (.tmp 17) rfl g 0 (by kernel_rfl) (some ⟨sg, 0, none⟩) sn sc (cell_of (unhide hcl) (i := 0) rfl)) ?_
    simp only [nrm]
    refine list_val (.int .i64 sn) (by kernel_rfl) (by kernel_rfl) ?_
    simp only [nrm]
    refine list_val (.bool false) (by kernel_rfl) (by go_simp) ?_
    simp only [nrm]
    refine list_val (.bool false) (by kernel_rfl) (by kernel_rfl) ?_
    simp only [nrm]
    refine wpList_nil ?_
    have hZ : Hid (Vl (.int .i64 (D.readE i)) w (.returned (.int .i64 (0))) u1) := ⟨by have h :  D.has i := (by unfold Dk.has; rw [← unhide hsn]; omega); unfold Dk.readE; rw [unhide hd3]; simp [h], hG⟩
    replace hG := hide hG
    go_wp2_with fail
    rw [unhide hT]
    exact unhide hZ
def Dne (n : Int) (w : World) (r : Ending) (w' : World) : Prop := if 1 ≤ n ∧ n ≤ 512 then ∃ g F, r = .returned (.tuple #[.pointer (some ⟨g, 0, none⟩), .int .i64 0]) ∧ Lies F g (dk0 n.toNat) w' ∧ (∀ i ∈ F, w.heap.size ≤ i) ∧ Gr w w' else r = .returned (.tuple #[.pointer none, .int .i64 2]) ∧ Gr w w'
theorem rep_flat (n : Nat) : ((List.replicate n ZB).map bv).flatten = (List.replicate (n * 64) (0 : Int)).map (Value.int .u8) := by
  rw [List.map_replicate, List.map_replicate, show bv ZB = List.replicate 64 (Value.int .u8 0) from by unfold bv ZB; rw [List.map_replicate]]
  rw [List.flatten_replicate_replicate]
set_option maxHeartbeats 4000000 in
theorem dnew_ok (n : Int) (w : World) : Calls Tryz.prog 28 #[.int .i64 n] w (Dne n w) := by
  obtain ⟨T, hT⟩ : ∃ T, T = Dne n w := ⟨_, rfl⟩
  rw [← hT]
  replace hT := hide hT
  go_enter Tryz.func28, Tryz.ntmps28
  go_upto_region 1 with fail
  by_cases h1 : n < 1
  · skip
    refine wp_region_lit ?_
    refine list_val (.int .i64 n) (by kernel_rfl) (by kernel_rfl) ?_
    simp only [nrm]
    refine list_val (.bool true) (by kernel_rfl) (by go_simp) ?_
    simp only [nrm]
    refine list_val (.bool true) (by kernel_rfl) (by kernel_rfl) ?_
    simp only [nrm]
    refine wpList_step fun K hK => ?_
    rw [if_neg (ne_true_of_eq_false (by kernel_rfl))]
    refine hK _ _ ?_
    clear hK K
    simp only [nrm]
    refine wpList_step fun K hK => ?_
    rw [if_neg (ne_true_of_eq_false (by kernel_rfl))]
    refine hK _ _ ?_
    clear hK K
    simp only [nrm]
    refine list_val (.bool true) (by kernel_rfl) (by kernel_rfl) ?_
    simp only [nrm]
    refine wpList_nil ?_
    have hZ : Hid (Dne n w (.returned (.tuple #[.pointer none, .int .i64 2])) w) := by
      show Dne n w _ w
      unfold Dne
      rw [if_neg (by omega)]
      exact ⟨rfl, Gr.refl w⟩
    go_wp2_with fail
    rw [unhide hT]
    exact unhide hZ
  by_cases h2 : 512 < n
  · skip
    refine wp_region_lit ?_
    refine list_val (.int .i64 n) (by kernel_rfl) (by kernel_rfl) ?_
    simp only [nrm]
    refine list_val (.bool false) (by kernel_rfl) (by go_simp) ?_
    simp only [nrm]
    refine list_val (.bool false) (by kernel_rfl) (by kernel_rfl) ?_
    simp only [nrm]
    refine list_val (.int .i64 n) (by kernel_rfl) (by kernel_rfl) ?_
    simp only [nrm]
    refine list_val (.bool true) (by kernel_rfl) (by go_simp) ?_
    simp only [nrm]
    refine list_val (.bool true) (by kernel_rfl) (by kernel_rfl) ?_
    simp only [nrm]
    refine wpList_nil ?_
    have hZ : Hid (Dne n w (.returned (.tuple #[.pointer none, .int .i64 2])) w) := by
      show Dne n w _ w
      unfold Dne
      rw [if_neg (by omega)]
      exact ⟨rfl, Gr.refl w⟩
    go_wp2_with fail
    rw [unhide hT]
    exact unhide hZ
  refine wp_region_lit ?_
  refine list_val (.int .i64 n) (by kernel_rfl) (by kernel_rfl) ?_
  simp only [nrm]
  refine list_val (.bool false) (by kernel_rfl) (by go_simp) ?_
  simp only [nrm]
  refine list_val (.bool false) (by kernel_rfl) (by kernel_rfl) ?_
  simp only [nrm]
  refine list_val (.int .i64 n) (by kernel_rfl) (by kernel_rfl) ?_
  simp only [nrm]
  refine list_val (.bool false) (by kernel_rfl) (by go_simp) ?_
  simp only [nrm]
  refine list_val (.bool false) (by kernel_rfl) (by kernel_rfl) ?_
  simp only [nrm]
  refine wpList_nil ?_
  obtain ⟨k, rfl⟩ := Int.eq_ofNat_of_zero_le (show 0 ≤ n by omega)
  have hB := Bl.nil w
  replace hB := hide hB
  go_upto_region 3 with fail
  replace hB := unhide hB
  refine wp_region_lit ?_
  refine list_val (.int .i64 (k : Int)) (by kernel_rfl) (by kernel_rfl) ?_
  simp only [nrm]
  refine make_blocks w rfl (.tmp 10) (.tmp 10) rfl k rfl rfl (by omega) ?_
  simp only [nrm]
  replace hB := hB.new (kc (List.replicate (k * 64) 0)) 36
  simp only [List.nil_append, List.cons_append] at hB
  generalize World.alloc _ _ = u1 at *
  refine list_val (.agg (pdv (some ⟨w.heap.size, 0, none⟩) k k none 0 0 (-1) 0 false)) (by kernel_rfl) (by kernel_rfl) ?_
  simp only [nrm]
  refine list_valw (.pointer (some ⟨u1.heap.size, 0, none⟩)) (u1.alloc (.cells (pdv (some ⟨w.heap.size, 0, none⟩) k k none 0 0 (-1) 0 false) 102 (0, 0))) (by kernel_rfl) (by kernel_rfl) ?_
  replace hB := hB.new (pdv (some ⟨w.heap.size, 0, none⟩) k k none 0 0 (-1) 0 false) 102
  simp only [List.nil_append, List.cons_append] at hB
  generalize World.alloc _ _ = u2 at *
  generalize u1.heap.size = gd at *
  replace hB : Bl w [⟨w.heap.size, kc (List.replicate (k * 64) 0), 36⟩, ⟨gd, pdv (some ⟨w.heap.size, 0, none⟩) k k none 0 0 (-1) 0 false, 102⟩] u2 := hB
  simp only [nrm]
  (refine wpList_step fun K hK => ?_; replace hK := hide hK; go_simp; refine unhide hK _ _ ?_; clear hK K)
  (refine wpList_step fun K hK => ?_; replace hK := hide hK; go_simp; refine unhide hK _ _ ?_; clear hK K)
  refine wpList_nil ?_
  have hZ : Hid (Dne (k : Int) w (.returned (.tuple #[.pointer (some ⟨gd, 0, none⟩), .int .i64 0])) u2) := by
    show Dne (k : Int) w _ u2
    unfold Dne
    rw [if_pos (by omega)]
    have hk : k ≤ 512 := by omega
    refine ⟨gd, pdF gd w.heap.size none, rfl, ⟨w.heap.size, k, (List.replicate (k * 64) (0 : Int)).map (Value.int .u8), none, 0, -1, ⟨?_, ?_, ?_, ?_, ?_, ?_, ?_, Lf.refl _ (by show (-9223372036854775808 : Int) ≤ -1; omega)⟩, rfl⟩, ?_, hB.gr⟩
    · show u2.heap[gd]? = some (.cells (pdv (some ⟨w.heap.size, 0, none⟩) (List.replicate k ZB).length k none 0 0 (-1) 0 false) _ (0, 0))
      rw [List.length_replicate]
      exact hB.get 1 (x := ⟨gd, pdv (some ⟨w.heap.size, 0, none⟩) k k none 0 0 (-1) 0 false, 102⟩) rfl
    · exact hB.get 0 (x := ⟨w.heap.size, kc (List.replicate (k * 64) 0), 36⟩) rfl
    · show Cov _ ((List.replicate k ZB).map bv).flatten
      rw [rep_flat]
      exact fun q x hq => hq
    · rw [List.length_map, List.length_replicate]
    · show (List.replicate k ZB).length ≤ k
      rw [List.length_replicate]
      exact Nat.le_refl _
    · unfold maxLen; omega
    · exact ⟨(fun r hr => by cases hr), rfl, .inl ⟨rfl, rfl⟩⟩
    · intro i hi
      rcases mem_pdF.1 hi with hi | hi | hi
      · rw [hi]
        exact hB.own 1 (x := ⟨gd, pdv (some ⟨w.heap.size, 0, none⟩) k k none 0 0 (-1) 0 false, 102⟩) rfl
      · rw [hi]
        exact Nat.le_refl _
      · cases hi
  replace hB := hide hB
  go_wp2_with fail
  rw [unhide hT]
  exact unhide hZ
set_option maxHeartbeats 4000000 in
theorem dread_p (g : Nat) (D : Dk) (sg sc : Nat) (C : List Value) (pa : Option Addr) (pc : Nat) (l : Int) (i : Int) (m : Nat) (hD : D.Ok m) (hm : m ≤ 1000000) (w : World) (hP : Pd g D w sg sc C pa pc l) : Calls Tryz.prog 63 #[P0 g, .int .i64 i] w (Rrd (D.readB i) (D.readE i) w) := by
  obtain ⟨T, hT⟩ : ∃ T, T = Rrd (D.readB i) (D.readE i) w := ⟨_, rfl⟩
  rw [← hT]
  replace hT := hide hT
  obtain ⟨dd, hdd⟩ : ∃ x, x = D.dead := ⟨_, rfl⟩
  obtain ⟨sn, hsn⟩ : ∃ n, n = D.safe.length := ⟨_, rfl⟩
  obtain ⟨pn, hpn⟩ : ∃ n, n = D.pend.length := ⟨_, rfl⟩
  obtain ⟨os, hos⟩ : ∃ n, n = D.ops := ⟨_, rfl⟩
  have hcl := hP.cel
  rw [← hdd, ← hsn, ← hpn, ← hos] at hcl
  replace hdd := hide hdd; replace hsn := hide hsn; replace hpn := hide hpn; replace hos := hide hos; replace hcl := hide hcl; replace hP := hide hP
  have hs512 : sn ≤ 512 := by rw [unhide hsn]; exact hD.hi1
  have hpm : pn ≤ 1000000 := by rw [unhide hpn]; exact Nat.le_trans hD.num hm
  replace hD := hide hD
  go_enter Tryz.func63, Tryz.ntmps63
  go_upto_region 1 with fail
  have hB := ((Bl.nil w).new #[.int .u8 0, .int .u8 0, .int .u8 0, .int .u8 0, .int .u8 0, .int .u8 0, .int .u8 0, .int .u8 0, .int .u8 0, .int .u8 0, .int .u8 0, .int .u8 0, .int .u8 0, .int .u8 0, .int .u8 0, .int .u8 0, .int .u8 0, .int .u8 0, .int .u8 0, .int .u8 0, .int .u8 0, .int .u8 0, .int .u8 0, .int .u8 0, .int .u8 0, .int .u8 0, .int .u8 0, .int .u8 0, .int .u8 0, .int .u8 0, .int .u8 0, .int .u8 0, .int .u8 0, .int .u8 0, .int .u8 0, .int .u8 0, .int .u8 0, .int .u8 0, .int .u8 0, .int .u8 0, .int .u8 0, .int .u8 0, .int .u8 0, .int .u8 0, .int .u8 0, .int .u8 0, .int .u8 0, .int .u8 0, .int .u8 0, .int .u8 0, .int .u8 0, .int .u8 0, .int .u8 0, .int .u8 0, .int .u8 0, .int .u8 0, .int .u8 0, .int .u8 0, .int .u8 0, .int .u8 0, .int .u8 0, .int .u8 0, .int .u8 0, .int .u8 0] 36)
  simp only [size_alloc, List.nil_append, List.cons_append] at hB
  generalize World.alloc _ _ = u at *
  replace hB : Bl w [⟨w.heap.size, kc ZB, 36⟩] u := hB
  refine wp_region_lit ?_
  refine list_val (.pointer (some ⟨g, 0, none⟩)) (by kernel_rfl) (by kernel_rfl) ?_
  simp only [nrm]
  refine list_val (.int .i64 i) (by kernel_rfl) (by kernel_rfl) ?_
  simp only [nrm]
  refine list_call 65 #[.pointer (some ⟨g, 0, none⟩), .int .i64 i] (by kernel_rfl) (by kernel_rfl) ((reach_ok g D sg sc C pa pc l i _ ((unhide hP).gr hB.gr)).mono ?_)
  rintro r u1 ⟨rfl, hG⟩
  refine ⟨_, rfl, ?_⟩
  obtain ⟨pe, hpe⟩ : ∃ x : Int, x = D.readE i := ⟨_, rfl⟩
  rw [← hpe]
  replace hpe := hide hpe
  replace hB := hB.more hG
  clear hG
  simp only [nrm]
  (refine wpList_step fun K hK => ?_; replace hK := hide hK; go_simp; refine unhide hK _ _ ?_; clear hK K)
  refine wpList_nil ?_
  have hcase : (pe = 7 ∧ D.readB i = ZB) ∨ (pe = 2 ∧ D.readB i = ZB) ∨ (pe = 0 ∧ D.has i ∧ D.dead = false) := by
    rw [unhide hpe]
    unfold Dk.readE Dk.readB
    cases D.dead
    · by_cases h : D.has i
      · exact .inr (.inr (by simp [h]))
      · exact .inr (.inl (by simp [h]))
    · exact .inl (by simp)
  rcases hcase with ⟨rfl, hzb⟩ | ⟨rfl, hzb⟩ | ⟨rfl, hhas, hnd⟩
  · skip
    replace hzb := hide hzb
    replace hB := hide hB
    go_upto_region 3 with fail
    replace hB := unhide hB
    refine wp_region_lit ?_
    refine list_val (.agg (kc ZB)) (by kernel_rfl) (by kernel_rfl) ?_
    simp only [nrm]
    refine list_val (.int .i64 7) (by kernel_rfl) (by kernel_rfl) ?_
    simp only [nrm]
    refine list_store 36 (.tmp 4) (.tmp 13) (w.heap.size) (kc ZB) 36 (kc ZB) (by kernel_rfl) rfl (by kernel_rfl) (by kernel_rfl) (hB.get 0 (x := ⟨w.heap.size, kc ZB, 36⟩) rfl) (by rw [Tryz.infoB, kc_size, ZB_len]) ((show (kc ZB).size = 64 from rfl).trans ((kc_size _).trans ZB_len).symm) (kc_one _) ?_
    replace hB := hB.set 0 (x := ⟨w.heap.size, kc ZB, 36⟩) rfl (kc ZB)
    simp only [List.set_cons_zero, List.set_cons_succ] at hB
    generalize World.setRow _ _ _ = u9 at *
    replace hB : Bl w [⟨w.heap.size, kc ZB, 36⟩] u9 := hB
    simp only [nrm]
    (refine wpList_step fun K hK => ?_; replace hK := hide hK; go_simp; refine unhide hK _ _ ?_; clear hK K)
    refine wpList_nil ?_
    have hE : D.readB i = ZB ∧ D.readE i = 7 := ⟨unhide hzb, (unhide hpe).symm⟩
    replace hB := hide hB
    go_wp2_with fail
    replace hB := unhide hB
    rw [unhide hT]
    exact bodyPost_ret (v := .tuple #[.agg (kc ZB), .int .i64 7]) (results_cell_tmp Tryz.results63 _ _ (w.heap.size) 36 (kc ZB) (0, 0) _ rfl (.int .i64 7) rfl (hB.get 0 (x := ⟨w.heap.size, kc ZB, 36⟩) rfl) Tryz.underlying36 rfl ((by rw [Tryz.infoB]; rfl))) rfl (⟨by rw [hE.1, hE.2], hB.gr⟩)
  · skip
    replace hzb := hide hzb
    replace hB := hide hB
    go_upto_region 3 with fail
    replace hB := unhide hB
    refine wp_region_lit ?_
    refine list_val (.agg (kc ZB)) (by kernel_rfl) (by kernel_rfl) ?_
    simp only [nrm]
    refine list_val (.int .i64 2) (by kernel_rfl) (by kernel_rfl) ?_
    simp only [nrm]
    refine list_store 36 (.tmp 4) (.tmp 13) (w.heap.size) (kc ZB) 36 (kc ZB) (by kernel_rfl) rfl (by kernel_rfl) (by kernel_rfl) (hB.get 0 (x := ⟨w.heap.size, kc ZB, 36⟩) rfl) (by rw [Tryz.infoB, kc_size, ZB_len]) ((show (kc ZB).size = 64 from rfl).trans ((kc_size _).trans ZB_len).symm) (kc_one _) ?_
    replace hB := hB.set 0 (x := ⟨w.heap.size, kc ZB, 36⟩) rfl (kc ZB)
    simp only [List.set_cons_zero, List.set_cons_succ] at hB
    generalize World.setRow _ _ _ = u9 at *
    replace hB : Bl w [⟨w.heap.size, kc ZB, 36⟩] u9 := hB
    simp only [nrm]
    (refine wpList_step fun K hK => ?_; replace hK := hide hK; go_simp; refine unhide hK _ _ ?_; clear hK K)
    refine wpList_nil ?_
    have hE : D.readB i = ZB ∧ D.readE i = 2 := ⟨unhide hzb, (unhide hpe).symm⟩
    replace hB := hide hB
    go_wp2_with fail
    replace hB := unhide hB
    rw [unhide hT]
    exact bodyPost_ret (v := .tuple #[.agg (kc ZB), .int .i64 2]) (results_cell_tmp Tryz.results63 _ _ (w.heap.size) 36 (kc ZB) (0, 0) _ rfl (.int .i64 2) rfl (hB.get 0 (x := ⟨w.heap.size, kc ZB, 36⟩) rfl) Tryz.underlying36 rfl ((by rw [Tryz.infoB]; rfl))) rfl (⟨by rw [hE.1, hE.2], hB.gr⟩)
  have hkn0 : 0 ≤ i ∧ i < (D.safe.length : Int) := hhas
  rw [← unhide hsn] at hkn0
  obtain ⟨k, rfl⟩ := Int.eq_ofNat_of_zero_le hkn0.1
  have hkn : k < sn := by omega
  have kI : (k : Int) < (sn : Int) := by omega
  have hfin : Hid (D.readB (k : Int) = curL D.safe D.pend k pn) := by
    show D.readB (k : Int) = _
    unfold Dk.readB Dk.cur
    rw [hnd, if_pos hhas, Int.toNat_natCast, unhide hpn]
    rfl
  clear hkn0 hhas hnd
  replace hB := hide hB
  go_upto_region 4 with fail
  replace hB := unhide hB
  obtain ⟨q0, hq0⟩ : ∃ q : Int, q = (pn : Int) - 1 := ⟨_, rfl⟩
  have hq1 : IntKind.i64.wrap ((pn : Int) - 1) = q0 := by rw [IntKind.wrap_i64]; omega
  refine wp_region_lit ?_
  refine list_val (.pointer (some ⟨g, 0, none⟩)) (by kernel_rfl) (by kernel_rfl) ?_
  simp only [nrm]
  refine list_val (.pointer (some ⟨g, 0, none⟩)) (by kernel_rfl) (by kernel_rfl) ?_
  simp only [nrm]
  refine list_val (.pointer (some ⟨g, 1, none⟩)) (by kernel_rfl) (by kernel_rfl) ?_
  simp only [nrm]
  refine list_val (.slice pa pn pc) (by kernel_rfl) (exec_spw _ (.tmp 17) rfl g 1 (by kernel_rfl) pa pn pc (cell_of (hB.gr.blk (unhide hcl)) (i := 1) rfl)) ?_
  simp only [nrm]
  refine list_val (.int .i64 pn) (by kernel_rfl) (by kernel_rfl) ?_
  simp only [nrm]
  refine list_val (.int .i64 q0) (by kernel_rfl) (by go_simp) ?_
  simp only [nrm]
  (refine wpList_step fun K hK => ?_; replace hK := hide hK; go_simp; refine unhide hK _ _ ?_; clear hK K)
  refine wpList_nil ?_
  clear hq1
  replace hB := hide hB
  go_wp2_with fail
  go_loopw [7] (fun i wr => ∃ j : Nat, ∃ q : Int, j ≤ pn ∧ i = .int .i64 q ∧ q = (j : Int) - 1 ∧ Hid (D.readB (k : Int) = curL D.safe D.pend k j) ∧ Hid (Bl w [⟨w.heap.size, kc ZB, 36⟩] wr)) (fun i _ => (intOf i + 1).toNat)
  case atStart => exact ⟨pn, q0, Nat.le_refl _, by rw [hq0], hq0, hfin, hB⟩
  case round =>
  clear hB hfin hq0 q0
  obtain ⟨j, q, hj, rfl, hq, hcj, hB⟩ := hrel
  rcases j with _ | j
  · skip
    obtain rfl : q = -1 := by omega
    clear hq
    obtain ⟨b0, hb⟩ : ∃ b, b = D.safe.getD k [] := ⟨_, rfl⟩
    have hrow := ((unhide hP).sls (unhide hD)).at_ k (by rw [← unhide hsn]; exact hkn)
    obtain ⟨p_, o_, he, hrow⟩ := hrow
    have e1 : sg = p_ ∧ 0 = o_ := by
      have := Option.some.inj he
      injection this with h1 h2 h3
      exact ⟨h1, h2⟩
    obtain ⟨rfl, rfl⟩ := e1
    clear he
    rw [getD_map bv D.safe k [] [] (by rw [← unhide hsn]; exact hkn), ← hb] at hrow
    have hb0 : BB b0 := by rw [hb]; exact (unhide hD).blk _ (mem_of_getD (by rw [← unhide hsn]; exact hkn))
    have hl0 := hb0.1
    have hcb : Hid (D.readB (k : Int) = b0) := by rw [hb]; exact unhide hcj
    replace hrow := hide hrow; replace hb := hide hb; replace hb0 := hide hb0
    replace hB := hide hB
    go_upto_region 9 with fail
    replace hB := unhide hB
    refine wp_region_lit ?_
    refine list_val (.pointer (some ⟨g, 0, none⟩)) (by kernel_rfl) (by kernel_rfl) ?_
    simp only [nrm]
    refine list_val (.pointer (some ⟨g, 0, none⟩)) (by kernel_rfl) (by kernel_rfl) ?_
    simp only [nrm]
    refine list_val (.pointer (some ⟨g, 0, none⟩)) (by kernel_rfl) (by kernel_rfl) ?_
    simp only [nrm]
    refine list_val (.slice (some ⟨sg, 0, none⟩) sn sc) (by kernel_rfl) (exec_sb _ (.tmp 45) rfl g 0 (by kernel_rfl) (some ⟨sg, 0, none⟩) sn sc (cell_of (hB.gr.blk (unhide hcl)) (i := 0) rfl)) ?_
    simp only [nrm]
    refine list_val (.int .i64 (k : Int)) (by kernel_rfl) (by kernel_rfl) ?_
    simp only [nrm]
    refine list_val (.pointer (some ⟨sg, 0 + 64 * k, none⟩)) (by kernel_rfl) (exec_ib _ (.tmp 46) (.tmp 47) rfl sg 0 sn sc k rfl rfl hkn) ?_
    simp only [nrm]
    refine list_val (.agg (kc b0)) (by kernel_rfl) (exec_row _ 36 (.tmp 48) rfl sg (0 + 64 * k) (by kernel_rfl) (bv b0) _ (range_gr (unhide hrow) hB.gr) Tryz.underlying36 rfl (by rw [Tryz.infoB, bv_len, hl0])) ?_
    simp only [nrm]
    refine list_store 36 (.tmp 4) (.tmp 49) (w.heap.size) (kc b0) 36 (kc ZB) (by kernel_rfl) rfl (by kernel_rfl) (by kernel_rfl) (hB.get 0 (x := ⟨w.heap.size, kc ZB, 36⟩) rfl) (by rw [Tryz.infoB, kc_size, hl0]) ((show (kc ZB).size = 64 from rfl).trans ((kc_size _).trans hl0).symm) (kc_one _) ?_
    replace hB := hB.set 0 (x := ⟨w.heap.size, kc ZB, 36⟩) rfl (kc b0)
    simp only [List.set_cons_zero, List.set_cons_succ] at hB
    generalize World.setRow _ _ _ = u9 at *
    replace hB : Bl w [⟨w.heap.size, kc b0, 36⟩] u9 := hB
    simp only [nrm]
    (refine wpList_step fun K hK => ?_; replace hK := hide hK; go_simp; refine unhide hK _ _ ?_; clear hK K)
    refine wpList_nil ?_
    replace hB := hide hB
    go_wp2_with fail
    replace hB := unhide hB
    rw [unhide hT]
    exact bodyPost_ret (v := .tuple #[.agg (kc b0), .int .i64 0]) (results_cell_tmp Tryz.results63 _ _ (w.heap.size) 36 (kc b0) (0, 0) _ rfl (.int .i64 0) rfl (hB.get 0 (x := ⟨w.heap.size, kc b0, 36⟩) rfl) Tryz.underlying36 rfl ((by rw [Tryz.infoB, kc_size, hl0]))) rfl (⟨by rw [unhide hcb, ← unhide hpe], hB.gr⟩)
  obtain rfl : q = (j : Int) := by omega
  clear hq
  have hjl : j < pn := by omega
  obtain ⟨p2, o2, rfl, hrw⟩ := (unhide hP).pls.at_ j (by rw [← unhide hpn]; exact hjl)
  rw [getD_map wv D.pend j (0, []) [] (by rw [← unhide hpn]; exact hjl)] at hrw
  have hx := (unhide hD).pnd _ (mem_of_getD (d := (0, [])) (by rw [← unhide hpn]; exact hjl))
  have hnx : Hid (curL D.safe D.pend k (j + 1) = if (D.pend.getD j (0, [])).1 = k then (D.pend.getD j (0, [])).2 else curL D.safe D.pend k j) := rfl
  obtain ⟨⟨ai, ab⟩, hab⟩ : ∃ x, x = D.pend.getD j (0, []) := ⟨_, rfl⟩
  rw [← hab] at hrw hx hnx
  have hal : ab.length = 64 := hx.2.1
  have hwl : (wv (ai, ab)).length = 65 := by rw [wv_len, hal]
  have hwr0 : Hid (wr.cell? ⟨p2, o2 + 65 * j, none⟩ = some (.int .i64 (ai : Int))) := by
    have h := hrw 0 (.int .i64 (ai : Int)) rfl
    exact (unhide hB).gr.cell h
  replace hab := hide hab; replace hx := hide hx; replace hrw := hide hrw
  have j0 : 0 ≤ (j : Int) := by omega
  have jI : (j : Int) < (pn : Int) := by omega
  replace hB := hide hB
  go_upto_region 7 with fail
  replace hB := unhide hB
  by_cases hak : ai = k
  · skip
    have aI : (ai : Int) = (k : Int) := by omega
    replace hak := hide hak
    refine wp_region_lit ?_
    refine list_val (.pointer (some ⟨g, 0, none⟩)) (by kernel_rfl) (by kernel_rfl) ?_
    simp only [nrm]
    refine list_val (.pointer (some ⟨g, 0, none⟩)) (by kernel_rfl) (by kernel_rfl) ?_
    simp only [nrm]
    refine list_val (.pointer (some ⟨g, 1, none⟩)) (by kernel_rfl) (by kernel_rfl) ?_
    simp only [nrm]
    refine list_val (.slice (some ⟨p2, o2, none⟩) pn pc) (by kernel_rfl) (exec_spw _ (.tmp 27) rfl g 1 (by kernel_rfl) (some ⟨p2, o2, none⟩) pn pc (cell_of (hB.gr.blk (unhide hcl)) (i := 1) rfl)) ?_
    simp only [nrm]
    refine list_val (.int .i64 (j : Int)) (by kernel_rfl) (by kernel_rfl) ?_
    simp only [nrm]
    refine list_val (.pointer (some ⟨p2, o2 + 65 * j, none⟩)) (by kernel_rfl) (exec_ipw _ (.tmp 28) (.tmp 29) rfl p2 o2 pn pc j rfl rfl hjl) ?_
    simp only [nrm]
    refine list_val (.pointer (some ⟨p2, o2 + 65 * j, none⟩)) (by kernel_rfl) (by kernel_rfl) ?_
    simp only [nrm]
    refine list_val (.int .i64 (ai : Int)) (by kernel_rfl) (exec_i64 _ (.tmp 31) rfl p2 (o2 + 65 * j) (by kernel_rfl) _ (unhide hwr0)) ?_
    simp only [nrm]
    refine list_val (.int .i64 (k : Int)) (by kernel_rfl) (by kernel_rfl) ?_
    simp only [nrm]
    refine list_val (.bool true) (by kernel_rfl) (by go_simp) ?_
    simp only [nrm]
    refine wpList_nil ?_
    replace hB := hide hB
    go_upto_region 8 with fail
    replace hB := unhide hB
    refine wp_region_lit ?_
    refine list_val (.pointer (some ⟨g, 0, none⟩)) (by kernel_rfl) (by kernel_rfl) ?_
    simp only [nrm]
    refine list_val (.pointer (some ⟨g, 0, none⟩)) (by kernel_rfl) (by kernel_rfl) ?_
    simp only [nrm]
    refine list_val (.pointer (some ⟨g, 1, none⟩)) (by kernel_rfl) (by kernel_rfl) ?_
    simp only [nrm]
    refine list_val (.slice (some ⟨p2, o2, none⟩) pn pc) (by kernel_rfl) (exec_spw _ (.tmp 37) rfl g 1 (by kernel_rfl) (some ⟨p2, o2, none⟩) pn pc (cell_of (hB.gr.blk (unhide hcl)) (i := 1) rfl)) ?_
    simp only [nrm]
    refine list_val (.int .i64 (j : Int)) (by kernel_rfl) (by kernel_rfl) ?_
    simp only [nrm]
    refine list_val (.pointer (some ⟨p2, o2 + 65 * j, none⟩)) (by kernel_rfl) (exec_ipw _ (.tmp 38) (.tmp 39) rfl p2 o2 pn pc j rfl rfl hjl) ?_
    simp only [nrm]
    refine list_val (.pointer (some ⟨p2, o2 + 65 * j + 1, none⟩)) (by kernel_rfl) (by kernel_rfl) ?_
    simp only [nrm]
    refine list_val (.agg (kc ab)) (by kernel_rfl) (exec_row _ 36 (.tmp 41) rfl p2 (o2 + 65 * j + 1) (by kernel_rfl) (bv ab) _ (fun q_ v_ hq => by rw [Nat.add_assoc, Nat.add_comm 1 q_]; exact hB.gr.cell (unhide hrw (q_ + 1) v_ (by unfold wv; rw [List.getElem?_cons_succ]; exact hq))) Tryz.underlying36 rfl (by rw [Tryz.infoB, bv_len, hal])) ?_
    simp only [nrm]
    refine list_store 36 (.tmp 4) (.tmp 42) (w.heap.size) (kc ab) 36 (kc ZB) (by kernel_rfl) rfl (by kernel_rfl) (by kernel_rfl) (hB.get 0 (x := ⟨w.heap.size, kc ZB, 36⟩) rfl) (by rw [Tryz.infoB, kc_size, hal]) ((show (kc ZB).size = 64 from rfl).trans ((kc_size _).trans hal).symm) (kc_one _) ?_
    replace hB := hB.set 0 (x := ⟨w.heap.size, kc ZB, 36⟩) rfl (kc ab)
    simp only [List.set_cons_zero, List.set_cons_succ] at hB
    generalize World.setRow _ _ _ = u9 at *
    replace hB : Bl w [⟨w.heap.size, kc ab, 36⟩] u9 := hB
    simp only [nrm]
    (refine wpList_step fun K hK => ?_; replace hK := hide hK; go_simp; refine unhide hK _ _ ?_; clear hK K)
    refine wpList_nil ?_
    have hE : D.readB (k : Int) = ab := by rw [unhide hcj, unhide hnx, if_pos (unhide hak)]
    replace hB := hide hB
    go_wp2_with fail
    replace hB := unhide hB
    rw [unhide hT]
    exact bodyPost_ret (v := .tuple #[.agg (kc ab), .int .i64 0]) (results_cell_tmp Tryz.results63 _ _ (w.heap.size) 36 (kc ab) (0, 0) _ rfl (.int .i64 0) rfl (hB.get 0 (x := ⟨w.heap.size, kc ab, 36⟩) rfl) Tryz.underlying36 rfl ((by rw [Tryz.infoB, kc_size, hal]))) rfl (⟨by rw [hE, ← unhide hpe], hB.gr⟩)
  have aI : ¬ (ai : Int) = (k : Int) := by omega
  replace hak := hide hak
  refine wp_region_lit ?_
  refine list_val (.pointer (some ⟨g, 0, none⟩)) (by kernel_rfl) (by kernel_rfl) ?_
  simp only [nrm]
  refine list_val (.pointer (some ⟨g, 0, none⟩)) (by kernel_rfl) (by kernel_rfl) ?_
  simp only [nrm]
  refine list_val (.pointer (some ⟨g, 1, none⟩)) (by kernel_rfl) (by kernel_rfl) ?_
  simp only [nrm]
  refine list_val (.slice (some ⟨p2, o2, none⟩) pn pc) (by kernel_rfl) (exec_spw _ (.tmp 27) rfl g 1 (by kernel_rfl) (some ⟨p2, o2, none⟩) pn pc (cell_of (hB.gr.blk (unhide hcl)) (i := 1) rfl)) ?_
  simp only [nrm]
  refine list_val (.int .i64 (j : Int)) (by kernel_rfl) (by kernel_rfl) ?_
  simp only [nrm]
  refine list_val (.pointer (some ⟨p2, o2 + 65 * j, none⟩)) (by kernel_rfl) (exec_ipw _ (.tmp 28) (.tmp 29) rfl p2 o2 pn pc j rfl rfl hjl) ?_
  simp only [nrm]
  refine list_val (.pointer (some ⟨p2, o2 + 65 * j, none⟩)) (by kernel_rfl) (by kernel_rfl) ?_
  simp only [nrm]
  refine list_val (.int .i64 (ai : Int)) (by kernel_rfl) (exec_i64 _ (.tmp 31) rfl p2 (o2 + 65 * j) (by kernel_rfl) _ (unhide hwr0)) ?_
  simp only [nrm]
  refine list_val (.int .i64 (k : Int)) (by kernel_rfl) (by kernel_rfl) ?_
  simp only [nrm]
  refine list_val (.bool false) (by kernel_rfl) (by go_simp) ?_
  simp only [nrm]
  refine wpList_nil ?_
  have hcj2 : Hid (D.readB (k : Int) = curL D.safe D.pend k j) := by
    show D.readB (k : Int) = _
    rw [unhide hcj, unhide hnx, if_neg (unhide hak)]
  obtain ⟨q9, hq9⟩ : ∃ q : Int, q = (j : Int) - 1 := ⟨_, rfl⟩
  have hq8 : IntKind.i64.wrap ((j : Int) - 1) = q9 := by rw [IntKind.wrap_i64]; omega
  replace hB := hide hB
  go_wp2_with fail
  go_roundw
  case rel => exact ⟨j, q9, by omega, by rw [hq9], hq9, hcj2, hB⟩
  case measure => simp [intOf] <;> omega
theorem dread_ok (F : List Nat) (g m : Nat) (D : Dk) (hD : D.Ok m) (hm : m ≤ 1000000) (i : Int) (w : World) (h : Lies F g D w) : Calls Tryz.prog 63 #[P0 g, .int .i64 i] w (Rrd (D.readB i) (D.readE i) w) := by
  obtain ⟨sg, sc, C, pa, pc, l, h, rfl⟩ := h
  exact dread_p g D sg sc C pa pc l i m hD hm w h
def tk (L : List Int) (j n : Nat) : List Int := L.take j ++ List.replicate (n - j) 0
theorem or_bt {k : Nat} {e : TypeId} {b : Nat} {u u' : World} {v : Value} {R : List (List Value)} (h : Or_ k e b u v R) {g : Nat} {c : Array Value} {t : TypeId} (hg : u.heap[g]? = some (.cells c t (0, 0))) (ht : t ≠ e) (hk : Bt g u u') : Or_ k e b u' v R := by
  refine ⟨h.1, h.2.1, ?_⟩
  rcases h.2.2 with h1 | ⟨p, cap, cur, h1, h2, h3, h4⟩
  · exact .inl h1
  · exact .inr ⟨p, cap, cur, h1, h2, hk.blk h3 (ty_ne h3 hg (Ne.symm ht)), h4⟩
end Go.Proofs.YtaoiejgjdmakjaaGreatDoor
