/-
  Several disks in one memory; armed disks and such as are not; what a crash leaves.
-/
import Derived.Test.YthgchjdjacbcgaaDkR
namespace Go.Proofs.Ythgchjdjacbcgaa
open Go.RowKit
set_option maxRecDepth 100000
set_option linter.unusedSimpArgs false
set_option linter.unusedVariables false
theorem list_off {P : Program} {ops : Array Oper} {Q : Exit → Act → World → Prop} {rest : List Oper} {o : Oper} {a : Act} {w : World} (hw : Region.wanted o (yielded ops a.tmps) = false) (h : wpList P ops Q rest (a.put o.dst undef) w) : wpList P ops Q (o :: rest) a w := by
  refine wpList_step fun K hK => ?_
  rw [if_neg (ne_true_of_eq_false hw)]
  exact hK _ _ h
def putU : List Oper → Act → Act
  | [], a => a
  | o :: os, a => putU os (a.put o.dst undef)
def offB (ops : Array Oper) : List Oper → Act → Bool
  | [], _ => true
  | o :: os, a => !(Region.wanted o (yielded ops a.tmps)) && offB ops os (a.put o.dst undef)
theorem list_offs {P : Program} {ops : Array Oper} {Q : Exit → Act → World → Prop} {w : World} : ∀ (k : Nat) (rest : List Oper) (a : Act), offB ops (rest.take k) a = true → wpList P ops Q (rest.drop k) (putU (rest.take k) a) w → wpList P ops Q rest a w
  | 0, rest, a, _, h => h
  | k + 1, [], a, _, h => h
  | k + 1, o :: rest, a, ho, h => by
    simp only [List.take_succ_cons, offB, Bool.and_eq_true, Bool.not_eq_true'] at ho
    exact list_off ho.1 (list_offs k rest _ ho.2 h)
/-- an operation whose value is known, and k behind it that are not wanted -/
theorem list_val_offs {P : Program} {ops : Array Oper} {Q : Exit → Act → World → Prop} {rest : List Oper} {o : Oper} {a : Act} {w : World} (k : Nat) (v : Value) (hw : Region.wanted o (yielded ops a.tmps) = true) (hx : (execOp a.eval o).run P w = .ok (.value v) w) (ho : offB ops (rest.take k) (a.put o.dst v) = true) (h : wpList P ops Q (rest.drop k) (putU (rest.take k) (a.put o.dst v)) w) : wpList P ops Q (o :: rest) a w :=
  list_val v hw hx (list_offs k rest _ ho h)
/-- disks of one's own, each for itself -/
structure Ds (w : World) (L : List (List Nat × Nat × Dk)) (v : World) : Prop where
  gr : Gr w v
  ls : ∀ x ∈ L, Lies x.1 x.2.1 x.2.2 v
  own : ∀ x ∈ L, ∀ i ∈ x.1, w.heap.size ≤ i
  ap : L.Pairwise (fun x y => ∀ i ∈ x.1, i ∉ y.1)
def Far (L : List (List Nat × Nat × Dk)) (a : Option Addr) : Prop := ∀ x ∈ L, ∀ i ∈ x.1, blkOf a ≠ some i
section
variable {w v u : World} {L : List (List Nat × Nat × Dk)} {F F' : List Nat} {g n : Nat} {D D' : Dk}
theorem Ds.nil (h : Gr w v) : Ds w [] v := ⟨h, by simp, by simp, List.Pairwise.nil⟩
theorem Ds.more (h : Ds w L v) (k : Gr v u) : Ds w L u := ⟨h.gr.trans k, fun x hx => (h.ls x hx).gr k, h.own, h.ap⟩
theorem Ds.at_ (h : Ds w L v) (hn : L[n]? = some (F, g, D)) : Lies F g D v := h.ls _ (List.mem_of_getElem? hn)
theorem Ds.add (h : Ds w L v) (k : Gr v u) (hL : Lies F g D u) (hF : ∀ i ∈ F, v.heap.size ≤ i) : Ds w (L ++ [(F, g, D)]) u := by
  refine ⟨h.gr.trans k, fun x hx => ?_, fun x hx i hi => ?_, ?_⟩
  · rcases List.mem_append.1 hx with h1 | h1
    · exact (h.ls x h1).gr k
    · rw [List.mem_singleton] at h1
      subst h1
      exact hL
  · rcases List.mem_append.1 hx with h1 | h1
    · exact h.own x h1 i hi
    · rw [List.mem_singleton] at h1
      subst h1
      exact Nat.le_trans h.gr.size (hF i hi)
  · refine List.pairwise_append.2 ⟨h.ap, List.pairwise_singleton _ _, fun x hx y hy i hi hj => ?_⟩
    rw [List.mem_singleton] at hy
    subst hy
    have h1 := (h.ls x hx).lt i hi
    have h2 := hF i hj
    omega
theorem set_mem {α : Type} {l : List α} {n : Nat} {x y : α} (h : y ∈ l.set n x) : y = x ∨ ∃ m, m ≠ n ∧ l[m]? = some y := by
  obtain ⟨m, hm⟩ := List.mem_iff_getElem?.1 h
  rw [List.getElem?_set] at hm
  split at hm
  · rename_i e
    split at hm
    · exact .inl (by injection hm with hm; exact hm.symm)
    · cases hm
  · exact .inr ⟨m, fun e => by rename_i h2; exact h2 e.symm, hm⟩
theorem ap_ne (h : L.Pairwise (fun x y => ∀ i ∈ x.1, i ∉ y.1)) {a b : Nat} {x y : List Nat × Nat × Dk} (hab : a ≠ b) (hx : L[a]? = some x) (hy : L[b]? = some y) : ∀ i ∈ x.1, i ∉ y.1 := by
  intro i hi hj
  obtain ⟨ha, rfl⟩ := List.getElem?_eq_some_iff.1 hx
  obtain ⟨hb, rfl⟩ := List.getElem?_eq_some_iff.1 hy
  rcases Nat.lt_or_gt_of_ne hab with h1 | h1
  · exact List.pairwise_iff_getElem.1 h a b ha hb h1 i hi hj
  · exact List.pairwise_iff_getElem.1 h b a hb ha h1 i hj hi
theorem Ds.chg (h : Ds w L v) (hn : L[n]? = some (F, g, D)) (c : Chg F F' v u) (hL : Lies F' g D' u) : Ds w (L.set n (F', g, D')) u := by
  have ho := h.own _ (List.mem_of_getElem? hn)
  refine ⟨Chg.own h.gr c ho, fun x hx => ?_, fun x hx i hi => ?_, ?_⟩
  · rcases set_mem hx with rfl | ⟨m, hm, hx2⟩
    · exact hL
    · exact (h.ls x (List.mem_of_getElem? hx2)).chg c (ap_ne h.ap hm hx2 hn)
  · rcases set_mem hx with rfl | ⟨m, hm, hx2⟩
    · exact c.newF h.gr.size ho i hi
    · exact h.own x (List.mem_of_getElem? hx2) i hi
  · refine List.pairwise_iff_getElem.2 fun a b ha hb hab i hi hj => ?_
    rw [List.length_set] at ha hb
    have far : ∀ m, (hm : m < L.length) → m ≠ n → ∀ i ∈ F', i ∉ (L[m]).1 := by
      intro m hm hmn i hi hj
      have hx : L[m]? = some L[m] := List.getElem?_eq_getElem hm
      rcases c.new i hi with h1 | h1
      · exact ap_ne h.ap hmn hx hn i hj h1
      · have := (h.ls _ (List.mem_of_getElem? hx)).lt i hj
        omega
    rw [List.getElem_set] at hi hj
    split at hi
    · rename_i e1
      rw [if_neg (by omega)] at hj
      exact far b hb (by omega) i hi hj
    · rename_i e1
      split at hj
      · exact far a ha (fun e => e1 e.symm) i hj hi
      · exact List.pairwise_iff_getElem.1 h.ap a b ha hb hab i hi hj
theorem Far.chg {a : Option Addr} (h : Far L a) (hn : L[n]? = some (F, g, D)) (c : Chg F F' v u) (hl : ∀ p, blkOf a = some p → p < v.heap.size) : Far (L.set n (F', g, D')) a := by
  intro x hx i hi e
  rcases set_mem hx with rfl | ⟨m, hm, hx2⟩
  · rcases c.new i hi with h1 | h1
    · exact h _ (List.mem_of_getElem? hn) i h1 e
    · have := hl i e
      omega
  · exact h x (List.mem_of_getElem? hx2) i hi e
theorem Far.add {a : Option Addr} (h : Far L a) (hF : ∀ i ∈ F, v.heap.size ≤ i) (hl : ∀ p, blkOf a = some p → p < v.heap.size) : Far (L ++ [(F, g, D)]) a := by
  intro x hx i hi e
  rcases List.mem_append.1 hx with h1 | h1
  · exact h x h1 i hi e
  · rw [List.mem_singleton] at h1
    subst h1
    have := hl i e
    have := hF i hi
    omega
theorem Ds.far (h : Ds w L v) {a : Option Addr} (hf : Fr2 v none a) : Far L a := by
  intro x hx i hi e
  rcases hf i e with h1 | h1
  · cases h1
  · have := (h.ls x hx).lt i hi
    omega
theorem Ds.old (h : Ds w L v) {a : Option Addr} (hl : ∀ p, blkOf a = some p → p < w.heap.size) : Far L a := by
  intro x hx i hi e
  have h1 := hl i e
  have h2 := h.own x hx i hi
  omega
end
/-! armed -/
def arm (B : Dk) (n : Nat) : Dk := { B with left := (n : Int) - (B.ops : Int) }
theorem six_op {B : Dk} (h : Six B) (q : Opl) (hk : q.k ≤ 2) : Six (B.opD q) := by
  have hcs : q.k = 0 ∨ q.k = 1 ∨ q.k = 2 := by omega
  unfold Dk.opD
  rcases hcs with e | e | e
  · rw [e]
    exact h
  · rw [e]
    exact write_six h _ _
  · rw [e]
    exact sync_six h
theorem arm_op {B : Dk} (h : Six B) {n : Nat} (hn : B.ops ≤ n) (q : Opl) (hk : q.k ≤ 2) (hc : ¬ (B.ops = n ∧ 0 < q.k ∧ (q.k = 2 ∨ (0 ≤ q.at_ ∧ q.at_ < 6)))) :
    (arm B n).opD q = arm (B.opD q) n ∧ (arm B n).opB q = B.opB q ∧ (arm B n).opE q = B.opE q ∧ (B.opD q).ops ≤ n ∧ ((arm B n).opD q).dead = false := by
  obtain ⟨S, P, dd, lf, os⟩ := B
  obtain ⟨h1, h2, h3⟩ := h
  dsimp only at h1 h2 h3 hn hc
  subst h1 h2
  have hcs : q.k = 0 ∨ q.k = 1 ∨ q.k = 2 := by omega
  unfold Dk.opD Dk.opB Dk.opE
  rcases hcs with e | e | e
  · rw [e]
    exact ⟨rfl, rfl, rfl, hn, rfl⟩
  · rw [e] at hc ⊢
    dsimp only [arm]
    unfold Dk.writeD Dk.writeE Dk.has Dk.doneD
    dsimp only
    by_cases ha : 0 ≤ q.at_ ∧ q.at_ < (S.length : Int)
    · have hlt : os < n := by
        rw [h3] at ha
        have : ¬ os = n := fun e2 => hc ⟨e2, by omega, .inr ha⟩
        omega
      have k1 : ¬ ((n : Int) - (os : Int) = 0) := by omega
      have k2 : 0 < (n : Int) - (os : Int) := by omega
      simp only [ha, k1, k2, if_true, if_false, Bool.false_eq_true, and_self]
      refine ⟨?_, by first | trivial | rfl, by first | trivial | rfl, by simp; omega, by first | trivial | rfl⟩
      simp
      omega
    · simp only [ha, if_false, Bool.false_eq_true]
      exact ⟨trivial, trivial, trivial, hn, trivial⟩
  · rw [e] at hc ⊢
    dsimp only [arm]
    unfold Dk.syncD Dk.syncE Dk.doneD
    dsimp only
    have hlt : os < n := by
      have : ¬ os = n := fun e2 => hc ⟨e2, by omega, .inl rfl⟩
      omega
    have k1 : ¬ ((n : Int) - (os : Int) = 0) := by omega
    have k2 : 0 < (n : Int) - (os : Int) := by omega
    simp only [k1, k2, if_true, if_false, Bool.false_eq_true]
    unfold Dk.live Dk.all
    refine ⟨?_, by first | trivial | rfl, by first | trivial | rfl, by simp; omega, by first | trivial | rfl⟩
    simp
    omega
theorem arm_off {B : Dk} (h : Six B) {n : Nat} (q : Opl) (hk : q.k ≤ 2) (hc : B.ops = n ∧ 0 < q.k ∧ (q.k = 2 ∨ (0 ≤ q.at_ ∧ q.at_ < 6))) :
    (arm B n).opD q = { arm B n with dead := true } ∧ (arm B n).opE q = 7 := by
  obtain ⟨S, P, dd, lf, os⟩ := B
  obtain ⟨h1, h2, h3⟩ := h
  obtain ⟨c1, c2, c3⟩ := hc
  dsimp only at h1 h2 h3 c1
  subst h1 h2 c1
  have hcs : q.k = 1 ∨ q.k = 2 := by omega
  unfold Dk.opD Dk.opE
  have k1 : ((os : Int) - (os : Int) = 0) := by omega
  rcases hcs with e | e
  · rw [e] at c3 ⊢
    dsimp only [arm]
    unfold Dk.writeD Dk.writeE Dk.has Dk.doneD
    dsimp only
    have ha : 0 ≤ q.at_ ∧ q.at_ < (S.length : Int) := by rw [h3]; omega
    simp only [ha, k1, if_true, if_false, Bool.false_eq_true, and_self]
  · rw [e]
    dsimp only [arm]
    unfold Dk.syncD Dk.syncE Dk.doneD
    dsimp only
    simp only [k1, if_true, if_false, Bool.false_eq_true, and_self]
theorem held_arm (B : Dk) (n : Nat) : heldL (arm B n) = heldL B := rfl
theorem getD_nil {α : Type} (i : Nat) (d : α) : ([] : List α).getD i d = d := by simp
theorem held_eq {D E : Dk} (hs : D.safe.length = E.safe.length) (h : ∀ i : Nat, i < E.safe.length → D.readB (i : Int) = E.readB (i : Int)) : heldL D = heldL E := by
  unfold heldL heldN
  rw [hs]
  refine List.map_congr_left fun i hi => h i (List.mem_range.1 hi)
theorem read_cur {D : Dk} (hd : D.dead = false) (i : Nat) (hi : i < D.safe.length) : D.readB (i : Int) = D.cur i := by
  unfold Dk.readB
  rw [hd, if_neg (by decide), if_pos (by unfold Dk.has; omega)]
  rfl
theorem crash_len (D : Dk) (keep : List Bool) : (D.crashD keep).safe.length = D.safe.length := by
  show (liv _ _ _ _).length = _
  exact liv_len ..
theorem crash_read (D : Dk) (keep : List Bool) (i : Nat) (hi : i < D.safe.length) : (D.crashD keep).readB (i : Int) = (liv D.safe D.pend keep D.pend.length).getD i [] := by
  rw [read_cur rfl i (by rw [crash_len]; exact hi)]
  rfl
theorem crash_all (D : Dk) (hP : ∀ x ∈ D.pend, x.1 < D.safe.length) (E : Dk) (he : E.dead = false) (h1 : E.safe = D.safe) (h2 : E.pend = D.pend) : heldL (D.crashD (List.replicate D.pend.length true)) = heldL E := by
  refine held_eq (by rw [crash_len, h1]) fun i hi => ?_
  rw [h1] at hi
  rw [crash_read D _ i hi, liv_all D.safe D.pend hP _ i _ (Nat.le_refl _) (Nat.le_refl _), read_cur he i (by rw [h1]; exact hi)]
  unfold Dk.cur
  rw [h1, h2]
theorem crash_sync {D : Dk} (h : Six D) (hP : ∀ x ∈ D.pend, x.1 < D.safe.length) : heldL (D.syncD.crashD []) = heldL D := by
  have hs := sync_six h
  have hp : D.syncD.pend = [] := by
    unfold Dk.syncD
    rw [h.dead, if_neg (by decide), if_neg (by rw [h.left]; decide)]
    rfl
  refine held_eq (by rw [crash_len, hs.six, h.six]) fun i hi => ?_
  rw [h.six] at hi
  rw [crash_read _ _ i (by rw [hs.six]; exact hi), liv_none, read_cur h.dead i (by rw [h.six]; exact hi), ← Dk.sync_cur h.dead (by rw [h.left]; decide) hP i]
  unfold Dk.cur
  rw [hp]
  rfl
theorem liv_pick (S : List (List Int)) (P : List (Nat × List Int)) (keep : List Bool) (hP : ∀ x ∈ P, x.1 < S.length) (i : Nat) : ∀ K, K ≤ P.length → (liv S P keep K).getD i [] = S.getD i [] ∨ ∃ k, k < K ∧ (P.getD k (0, [])).1 = i ∧ (liv S P keep K).getD i [] = (P.getD k (0, [])).2
  | 0, _ => .inl rfl
  | K + 1, hK => by
    have ih := liv_pick S P keep hP i K (by omega)
    have hlt : (P.getD K (0, [])).1 < (liv S P keep K).length := by
      rw [liv_len]
      refine hP _ ?_
      rw [List.getD_eq_getElem?_getD, List.getElem?_eq_getElem (by omega)]
      exact List.getElem_mem _
    unfold liv
    split
    · rw [getD_set _ _ _ _ _ hlt]
      split
      · rename_i e
        exact .inr ⟨K, by omega, e, rfl⟩
      · rcases ih with h | ⟨k, h1, h2, h3⟩
        · exact .inl h
        · exact .inr ⟨k, by omega, h2, h3⟩
    · rcases ih with h | ⟨k, h1, h2, h3⟩
      · exact .inl h
      · exact .inr ⟨k, by omega, h2, h3⟩
def oneL (k : Nat) : List Bool := (List.replicate (k + 1) false).set k true
theorem oneL_at (k j : Nat) : (oneL k).getD j false = decide (j = k) := by
  unfold oneL
  rw [getD_set _ _ _ _ _ (by simp)]
  split
  · rename_i e
    simp [e]
  · rename_i e
    have : ¬ j = k := fun h => e h.symm
    rw [List.getD_eq_getElem?_getD, List.getElem?_replicate]
    split <;> simp [this]
theorem liv_one (S : List (List Int)) (P : List (Nat × List Int)) (k i : Nat) (hk : (P.getD k (0, [])).1 = i) (hi : i < S.length) : ∀ K, (liv S P (oneL k) K).getD i [] = if k < K then (P.getD k (0, [])).2 else S.getD i []
  | 0 => by simp [liv]
  | K + 1 => by
    have ih := liv_one S P k i hk hi K
    unfold liv
    rw [oneL_at]
    by_cases e : K = k
    · subst e
      rw [if_pos (by simp), if_pos (by omega), getD_set _ _ _ _ _ (by rw [liv_len, hk]; exact hi), if_pos hk]
    · rw [if_neg (by simp [e]), ih]
      by_cases h : k < K
      · rw [if_pos h, if_pos (by omega)]
      · rw [if_neg h, if_neg (by omega)]
/-- each sector holds something that it held -/
theorem crash_some {D : Dk} (hP : ∀ x ∈ D.pend, x.1 < D.safe.length) (keep : List Bool) (i : Nat) (hi : i < D.safe.length) : (D.crashD keep).readB (i : Int) = (D.crashD []).readB (i : Int) ∨ ∃ k, k < D.pend.length ∧ (D.pend.getD k (0, [])).1 = i ∧ (D.crashD keep).readB (i : Int) = (D.crashD (oneL k)).readB (i : Int) := by
  rw [crash_read D keep i hi, crash_read D [] i hi, liv_none]
  rcases liv_pick D.safe D.pend keep hP i _ (Nat.le_refl _) with h | ⟨k, h1, h2, h3⟩
  · exact .inl h
  · refine .inr ⟨k, h1, h2, ?_⟩
    rw [crash_read D _ i hi, liv_one D.safe D.pend k i h2 hi, if_pos h1]
    exact h3
end Go.Proofs.Ythgchjdjacbcgaa
