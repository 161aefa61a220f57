/-
  Bytes that are copied into a row.
-/
import Derived.Test.YtdekjbdkpchbjaaPolyB
import Derived.Deep.MidRow
import Derived.Laws.CopyOwn
namespace Go.Proofs.Ytdekjbdkpchbjaa
open Go.RowKit
set_option maxRecDepth 100000
set_option linter.unusedSimpArgs false
set_option linter.unusedVariables false
/-- Nothing that was there has turned but for block g. -/
structure Bt (g : Nat) (w v : World) : Prop where
  os : v.os = w.os
  tape : v.tape = w.tape
  output : v.output = w.output
  size : w.heap.size ≤ v.heap.size
  block : ∀ i, i < w.heap.size → i ≠ g → v.heap[i]? = w.heap[i]?
theorem Bt.refl (g : Nat) (w : World) : Bt g w w := ⟨rfl, rfl, rfl, Nat.le_refl _, fun _ _ _ => rfl⟩
theorem Bt.trans {g : Nat} {a b c : World} (h : Bt g a b) (k : Bt g b c) : Bt g a c :=
  ⟨k.os.trans h.os, k.tape.trans h.tape, k.output.trans h.output, Nat.le_trans h.size k.size, fun i hi hn => (k.block i (Nat.lt_of_lt_of_le hi h.size) hn).trans (h.block i hi hn)⟩
theorem Gr.bt {w v : World} (h : Gr w v) (g : Nat) : Bt g w v := ⟨h.os, h.tape, h.output, h.size, fun i hi _ => h.block i hi⟩
theorem Bt.gr {g : Nat} {w u v : World} (h : Gr w u) (k : Bt g u v) (hg : w.heap.size ≤ g) : Gr w v :=
  ⟨k.os.trans h.os, k.tape.trans h.tape, k.output.trans h.output, Nat.le_trans h.size k.size, fun i hi => (k.block i (Nat.lt_of_lt_of_le hi h.size) (by omega)).trans (h.block i hi)⟩
theorem Bt.blk {g : Nat} {w v : World} (h : Bt g w v) {b : Nat} {o : Obj} (hp : w.heap[b]? = some o) (hb : b ≠ g) : v.heap[b]? = some o := by rw [h.block b (lt_of_block hp) hb]; exact hp
theorem Bt.cell {g : Nat} {w v : World} (h : Bt g w v) {p o : Nat} {x : Value} (hp : w.cell? ⟨p, o, none⟩ = some x) (hb : p ≠ g) : v.cell? ⟨p, o, none⟩ = some x := by
  rw [cell_heap (h.block p (lt_of_cell hp) hb)]; exact hp
theorem Bl.but {w u v : World} {L : List Blk} (h : Bl w L u) {g : Nat} (k : Bt g u v) (i : Nat) {x : Blk} (hi : L[i]? = some x) (hx : x.g = g) {c : Array Value} (hc : v.heap[g]? = some (.cells c x.t (0, 0))) : Bl w (L.set i ⟨g, c, x.t⟩) v := by
  have hn : ∀ j y, L[j]? = some y → j ≠ i → y.g ≠ g := by
    intro j y hj hji
    obtain ⟨hjl, rfl⟩ := List.getElem?_eq_some_iff.1 hj
    obtain ⟨hil, rfl⟩ := List.getElem?_eq_some_iff.1 hi
    rw [← hx]
    rcases Nat.lt_or_gt_of_ne hji with hlt | hlt
    · exact List.pairwise_iff_getElem.1 h.ne j i hjl hil hlt
    · exact (List.pairwise_iff_getElem.1 h.ne i j hil hjl hlt).symm
  have hog := h.own i hi
  rw [hx] at hog
  refine ⟨k.gr h.gr hog, ?_, ?_⟩
  · intro y hy
    obtain ⟨j, hj⟩ := List.mem_iff_getElem?.1 hy
    by_cases hji : j = i
    · subst hji
      rw [List.getElem?_set_self', hi] at hj
      simp at hj
      subst hj
      exact ⟨hc, hog⟩
    · rw [List.getElem?_set_ne (fun e => hji e.symm)] at hj
      exact ⟨k.blk (h.get j hj) (hn j y hj hji), h.own j hj⟩
  · refine List.pairwise_iff_getElem.2 fun a b ha hb hab => ?_
    rw [List.length_set] at ha hb
    have h0 := List.pairwise_iff_getElem.1 h.ne a b ha hb hab
    obtain ⟨hil, rfl⟩ := List.getElem?_eq_some_iff.1 hi
    rw [List.getElem_set, List.getElem_set]
    split
    · rename_i e
      subst e
      split
      · omega
      · exact fun e => h0 (hx.trans e)
    · split
      · rename_i e
        subst e
        exact fun e => h0 (e.trans hx.symm)
      · exact h0

/-- cells set one by one -/
def sp (C : List Value) : Nat → List Value → List Value
  | _, [] => C
  | o, v :: r => sp (C.set o v) (o + 1) r
theorem sp_mid : ∀ (vs A M D : List Value), vs.length = M.length → sp (A ++ (M ++ D)) A.length vs = A ++ (vs ++ D)
  | [], A, M, D, h => by
    have : M = [] := List.eq_nil_of_length_eq_zero h.symm
    subst this
    rfl
  | v :: r, A, [], D, h => by simp at h
  | v :: r, A, m :: M, D, h => by
    have h1 : (A ++ (m :: M ++ D)).set A.length v = (A ++ [v]) ++ (M ++ D) := by simp
    have h2 := sp_mid r (A ++ [v]) M D (by simpa using h)
    rw [sp, h1]
    simp only [List.length_append, List.length_cons, List.length_nil, Nat.zero_add] at h2
    rw [h2]
    simp
theorem setCells_heap : ∀ (vs : List Value) (w : World) (g o : Nat) (C : List Value) (t : TypeId), w.heap[g]? = some (.cells C.toArray t (0, 0)) → (w.setCells g o vs).heap[g]? = some (.cells (sp C o vs).toArray t (0, 0))
  | [], w, g, o, C, t, h => h
  | v :: r, w, g, o, C, t, h => by
    have h1 := heap_setCell_same w g o C.toArray t v h
    rw [List.setIfInBounds_toArray] at h1
    rw [World.setCells, sp]
    exact setCells_heap r _ g (o + 1) _ t h1
theorem setCells_other : ∀ (vs : List Value) (w : World) (g o j : Nat), j ≠ g → (w.setCells g o vs).heap[j]? = w.heap[j]?
  | [], w, g, o, j, h => rfl
  | v :: r, w, g, o, j, h => by
    rw [World.setCells, setCells_other r _ g (o + 1) j h]
    exact Below.heap_setCell w ⟨g, o, none⟩ v j h
theorem setCells_bt : ∀ (vs : List Value) (w : World) (g o : Nat), Bt g w (w.setCells g o vs)
  | [], w, g, o => Bt.refl g w
  | v :: r, w, g, o => by
    rw [World.setCells]
    refine Bt.trans ?_ (setCells_bt r _ g (o + 1))
    refine ⟨rfl, rfl, rfl, ?_, fun i _ hn => Below.heap_setCell w ⟨g, o, none⟩ v i hn⟩
    exact Nat.le_of_eq (by simp [World.setCell])
theorem there_of {w : World} {g o n : Nat} {C : List Value} {t : TypeId} (h : w.heap[g]? = some (.cells C.toArray t (0, 0))) (hn : o + n ≤ C.length) : w.there g o n := by
  intro j hj
  refine ⟨?_, froz_of h⟩
  have : C.toArray[o + j]? = some (C[o + j]'(by omega)) := by simp
  rw [cell_of h this]
  rfl
theorem Try.size5 : (Try.prog.info? 5).map (·.size) = some 1 := by kernel_rfl
/-- copy -/
theorem copy_wp {o : Oper} {a : Act} {w : World} {K : Act → World → Prop} {Q : Exit → Act → World → Prop} (d s : Operand) (ho : o.op = .call { callee := .builtin .copy, args := #[d, s], argTypes := #[26, 26] })
    (g off dLen dCap : Nat) (sp : Option Addr) (sLen sCap : Nat) (hd : a.eval d = .slice (some ⟨g, off, none⟩) dLen dCap) (hs : a.eval s = .slice sp sLen sCap)
    (C : List Value) (t : TypeId) (hg : w.heap[g]? = some (.cells C.toArray t (0, 0))) (B : List Int) (hn : B.length = Nat.min sLen dLen) (hsrc : B = [] ∨ ∃ p q, sp = some ⟨p, q, none⟩ ∧ At w p q B) (hfit : off + B.length ≤ C.length)
    (h : K (a.put o.dst (.int .i64 B.length)) (w.setCells g off (B.map (Value.int .u8)))) : o.wp Try.prog a w K Q := by
  rcases hsrc with rfl | ⟨p, q, rfl, hat⟩
  · have hrun := run_copy_none (P := Try.prog) w 26 26 o.type 5 (some ⟨g, off, none⟩) sp dLen dCap sLen sCap Try.underlying26 Try.size5 hn.symm
    unfold Oper.wp
    simp [execOp, ho, resolve, invoke, builtin, hd, hs, hrun, Result.andThen]
    exact h
  · have hth := there_of (n := B.length) hg hfit
    have hrun := run_copy_cells (P := Try.prog) w 26 26 o.type 5 g off dLen dCap ⟨p, q, none⟩ sLen sCap (B.map (Value.int .u8)) Try.underlying26 Try.size5 (by simpa using hn) (by
      intro j v hj
      have hj2 : j < B.length := by have := (List.getElem?_eq_some_iff.1 hj).1; simpa using this
      rw [Addr.add_mid, hat j hj2]
      simp [hj2] at hj ⊢
      exact hj) (fun j hj => (hth j (by simpa using hj)).1) (fun j hj => (hth j (by simpa using hj)).2) (by intro v hv; obtain ⟨x, _, rfl⟩ := List.mem_map.1 hv; rfl)
    unfold Oper.wp
    simp [execOp, ho, resolve, invoke, builtin, hd, hs, hrun, Result.andThen]
    exact h
theorem sp_tail (S A M : List Int) (h : S.length = M.length) : sp ((A ++ M).map (Value.int .u8)) A.length (S.map (Value.int .u8)) = (A ++ S).map (Value.int .u8) := by
  have h1 := sp_mid (S.map (Value.int .u8)) (A.map (Value.int .u8)) (M.map (Value.int .u8)) [] (by simp [h])
  simp only [List.append_nil, List.length_map, ← List.map_append] at h1
  exact h1
end Go.Proofs.Ytdekjbdkpchbjaa
