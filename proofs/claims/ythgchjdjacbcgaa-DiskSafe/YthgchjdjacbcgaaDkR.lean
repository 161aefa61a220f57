/-
  Plain facts of disks: what a sector holds behind a write, a sync, a crash.
-/
import Derived.Test.YthgchjdjacbcgaaDkQ
namespace Go.Proofs.Ythgchjdjacbcgaa
open Go.RowKit
set_option maxRecDepth 100000
set_option linter.unusedSimpArgs false
set_option linter.unusedVariables false
theorem getD_set {α : Type} (l : List α) (i j : Nat) (x d : α) (hi : i < l.length) : (l.set i x).getD j d = if i = j then x else l.getD j d := by
  rw [List.getD_eq_getElem?_getD, List.getD_eq_getElem?_getD]
  by_cases h : i = j
  · subst h
    rw [List.getElem?_set_self hi, if_pos rfl]
    rfl
  · rw [List.getElem?_set_ne h, if_neg h]
theorem getD_app {α : Type} (l m : List α) (j : Nat) (d : α) (h : j < l.length) : (l ++ m).getD j d = l.getD j d := by
  rw [List.getD_eq_getElem?_getD, List.getD_eq_getElem?_getD, List.getElem?_append_left h]
theorem curL_app (S : List (List Int)) (P : List (Nat × List Int)) (x : Nat × List Int) (i : Nat) : ∀ k, k ≤ P.length → curL S (P ++ [x]) i k = curL S P i k
  | 0, _ => rfl
  | k + 1, h => by
    unfold curL
    rw [getD_app P [x] k _ (by omega), curL_app S P x i k (by omega)]
theorem curL_snoc (S : List (List Int)) (P : List (Nat × List Int)) (x : Nat × List Int) (i : Nat) : curL S (P ++ [x]) i (P ++ [x]).length = if x.1 = i then x.2 else curL S P i P.length := by
  rw [List.length_append, List.length_singleton]
  show (if ((P ++ [x]).getD P.length (0, [])).1 = i then ((P ++ [x]).getD P.length (0, [])).2 else curL S (P ++ [x]) i P.length) = _
  have e : (P ++ [x]).getD P.length (0, []) = x := by
    rw [List.getD_eq_getElem?_getD, List.getElem?_append_right (Nat.le_refl _), Nat.sub_self]
    rfl
  rw [e, curL_app S P x i P.length (Nat.le_refl _)]
/-- all pending writes live on: each sector holds what it held -/
theorem liv_all (S : List (List Int)) (P : List (Nat × List Int)) (hP : ∀ x ∈ P, x.1 < S.length) (n i : Nat) : ∀ k, k ≤ n → k ≤ P.length → (liv S P (List.replicate n true) k).getD i [] = curL S P i k
  | 0, _, _ => rfl
  | k + 1, h1, h2 => by
    have ih := liv_all S P hP n i k (by omega) (by omega)
    have e : (List.replicate n true).getD k false = true := by
      rw [List.getD_eq_getElem?_getD, List.getElem?_replicate, if_pos (by omega)]
      rfl
    unfold liv curL
    rw [e, if_pos rfl, getD_set _ _ _ _ _ (by rw [liv_len]; exact hP _ (mem_of_getD (by omega))), ih]
/-- none live on: what is safe -/
theorem liv_none (S : List (List Int)) (P : List (Nat × List Int)) : ∀ k, liv S P [] k = S
  | 0 => rfl
  | k + 1 => by
    unfold liv
    rw [liv_none S P k]
    rfl
theorem Dk.sync_cur {D : Dk} (hd : D.dead = false) (hl : D.left ≠ 0) (hP : ∀ x ∈ D.pend, x.1 < D.safe.length) (i : Nat) : D.syncD.cur i = D.cur i := by
  obtain ⟨S, P, dd, lf, os⟩ := D
  obtain ⟨d2, l2, o2, h2⟩ := done_form S P dd lf os
  have e : (Dk.mk S P dd lf os).syncD = (Dk.mk S P d2 l2 o2).live (List.replicate P.length true) := by
    unfold Dk.syncD
    rw [hd, if_neg (by decide), if_neg (show ¬ (Dk.mk S P dd lf os).left = 0 from hl), h2]
    rfl
  rw [e]
  exact liv_all S P hP P.length i P.length (Nat.le_refl _) (Nat.le_refl _)
theorem Dk.write_cur {D : Dk} (hd : D.dead = false) (hl : D.left ≠ 0) (a : Int) (ha : D.has a) (b : List Int) (i : Nat) : (D.writeD a b).cur i = if a.toNat = i then b else D.cur i := by
  obtain ⟨S, P, dd, lf, os⟩ := D
  obtain ⟨d2, l2, o2, h2⟩ := done_form S P dd lf os
  have e : (Dk.mk S P dd lf os).writeD a b = Dk.mk S (P ++ [(a.toNat, b)]) d2 l2 o2 := by
    unfold Dk.writeD
    rw [hd, if_neg (by decide), if_pos ha, if_neg (show ¬ (Dk.mk S P dd lf os).left = 0 from hl), h2]
  rw [e]
  exact curL_snoc S P (a.toNat, b) i
/-- alive, not armed, of six -/
structure Six (D : Dk) : Prop where
  dead : D.dead = false
  left : D.left = -1
  six : D.safe.length = 6
theorem done_six {D : Dk} (h : Six D) : Six D.doneD := by
  unfold Dk.doneD
  rw [if_neg (by rw [h.left]; decide)]
  exact ⟨h.dead, by show (if 0 < D.left then D.left - 1 else D.left) = -1; rw [h.left]; rfl, h.six⟩
theorem write_six {D : Dk} (h : Six D) (a : Int) (b : List Int) : Six (D.writeD a b) := by
  unfold Dk.writeD
  split
  · exact h
  · split
    · split
      · exact done_six h
      · have k := done_six h
        exact ⟨k.dead, k.left, k.six⟩
    · exact h
theorem sync_six {D : Dk} (h : Six D) : Six D.syncD := by
  unfold Dk.syncD
  split
  · exact h
  · split
    · exact done_six h
    · have k := done_six h
      refine ⟨k.dead, k.left, ?_⟩
      show (liv _ _ _ _).length = 6
      rw [liv_len]
      exact k.six
theorem wrn_six (l : List Opl) : ∀ j, Six (wrn l j)
  | 0 => ⟨rfl, rfl, rfl⟩
  | j + 1 => by
    have ih := wrn_six l j
    unfold wrn
    split
    · rename_i hk
      have hcs : (l.getD j op0).k = 0 ∨ (l.getD j op0).k = 1 ∨ (l.getD j op0).k = 2 := by omega
      unfold Dk.opD
      rcases hcs with h | h | h
      · rw [h]
        exact ih
      · rw [h]
        exact write_six ih _ _
      · rw [h]
        exact sync_six ih
    · exact ih
/-- what was written last -/
def lstN (l : List Opl) : Nat → List (List Int)
  | 0 => List.replicate 6 ZB
  | j + 1 => if (l.getD j op0).k = 1 ∧ 0 ≤ (l.getD j op0).at_ ∧ (l.getD j op0).at_ < 6 then (lstN l j).set (l.getD j op0).at_.toNat (blkL (l.getD j op0).fill) else lstN l j
theorem lstN_len (l : List Opl) : ∀ j, (lstN l j).length = 6
  | 0 => rfl
  | j + 1 => by
    unfold lstN
    split
    · rw [List.length_set, lstN_len l j]
    · exact lstN_len l j
theorem lstN_bb (l : List Opl) : ∀ j, ∀ b ∈ lstN l j, BB b
  | 0 => fun b hb => by rw [List.eq_of_mem_replicate hb]; exact ZB_bb
  | j + 1 => by
    intro b hb
    unfold lstN at hb
    split at hb
    · rcases mem_set_or hb with rfl | h
      · exact blkL_bb _
      · exact lstN_bb l j b h
    · exact lstN_bb l j b hb
theorem wrn_last {l : List Opl} (hok : ∀ o ∈ l, o.Ok) (i : Nat) (hi : i < 6) : ∀ j, (wrn l j).cur i = (lstN l j).getD i []
  | 0 => rfl
  | j + 1 => by
    have ih := wrn_last hok i hi j
    have h6 := wrn_six l j
    have hO := wrn_ok hok j
    have hl0 : (wrn l j).left ≠ 0 := by rw [h6.left]; decide
    unfold wrn lstN
    generalize l.getD j op0 = q at *
    by_cases hk : q.k < 3
    · rw [if_pos hk]
      have hcs : q.k = 0 ∨ q.k = 1 ∨ q.k = 2 := by omega
      unfold Dk.opD
      rcases hcs with h | h | h
      · rw [h, if_neg (by omega)]
        exact ih
      · rw [h]
        by_cases ha : 0 ≤ q.at_ ∧ q.at_ < 6
        · rw [if_pos ⟨rfl, ha⟩]
          have hh : (wrn l j).has q.at_ := by unfold Dk.has; rw [h6.six]; exact ha
          show ((wrn l j).writeD q.at_ (blkL q.fill)).cur i = _
          rw [Dk.write_cur h6.dead hl0 q.at_ hh, getD_set _ _ _ _ _ (by rw [lstN_len]; omega), ih]
        · rw [if_neg (fun h => ha h.2)]
          have hh : ¬ (wrn l j).has q.at_ := by unfold Dk.has; rw [h6.six]; exact ha
          show ((wrn l j).writeD q.at_ (blkL q.fill)).cur i = _
          have e : (wrn l j).writeD q.at_ (blkL q.fill) = wrn l j := by
            unfold Dk.writeD
            rw [h6.dead, if_neg (by decide), if_neg hh]
          rw [e, ih]
      · rw [h, if_neg (by omega)]
        show (wrn l j).syncD.cur i = _
        rw [Dk.sync_cur h6.dead hl0 (fun x hx => (hO.pnd x hx).1), ih]
    · rw [if_neg hk, if_neg (by omega)]
      exact ih
theorem Six.read {D : Dk} (h : Six D) (i : Nat) (hi : i < 6) : D.readB (i : Int) = D.cur i := by
  have hh : D.has (i : Int) := by unfold Dk.has; rw [h.six]; omega
  unfold Dk.readB
  rw [h.dead, if_neg (by decide), if_pos hh]
  rfl
end Go.Proofs.Ythgchjdjacbcgaa
