/-
  What the document's answer Do does, as one function says.
-/
import Derived.Test.YtcbdjijkliknoaaDook
import Derived.Test.YtcbdjijkliknoaaAppend
namespace Go.Proofs.Ytcbdjijkliknoaa
open Go.RowKit
set_option linter.unusedVariables false

/-- How many bytes are asked for. -/
def askN (K : Nat) (N : Int) : Int := if K = 0 then 2 else if K = 1 then 4 else if K = 2 then 8 else if K = 3 then N else 32
/-- The number that is told, and the bytes, where r was taken. -/
def toldN (K : Nat) (r : List Int) : Int := if K < 3 then lowN r else 0
def toldB (K : Nat) (r : List Int) : List Int := if K < 3 then [] else if K = 3 then r else r ++ List.replicate (32 - r.length) 0

/-- What Do has done. -/
def Done (K b off C : Nat) (l : List Int) (r : List Int × Nat × Int) (w : World) (x : Ending) (w' : World) : Prop :=
  ∃ a2 c2, x = .returned (.tuple #[.agg #[.slice (some ⟨b, off, none⟩) l.length C, .int .i64 r.2.1, .int .i64 r.2.2], .agg #[.int .u64 (toldN K r.1), .slice a2 (toldB K r.1).length c2]]) ∧
    Bs w' a2 (toldB K r.1).length (toldB K r.1) ∧ Below w.heap.size w w' ∧ (∀ y, a2 = some y → y.block = b ∨ w.heap.size ≤ y.block)

theorem takeM_err (l : List Int) (i : Nat) (e n : Int) (h : e ≠ 0) : takeM l i e n = ([], i, e) := by unfold takeM; rw [if_pos h]
theorem takeM_neg (l : List Int) (i : Nat) (n : Int) (h : n < 0) : takeM l i 0 n = ([], i, 2) := by unfold takeM; rw [if_neg (by simp), if_pos h]
theorem takeM_short (l : List Int) (i : Nat) (n : Int) (h0 : ¬ n < 0) (h : (l.length : Int) - i < n) : takeM l i 0 n = ([], i, 110) := by unfold takeM; rw [if_neg (by simp), if_neg h0, if_pos h]
theorem takeM_ok (l : List Int) (i : Nat) (n : Int) (h0 : ¬ n < 0) (h : ¬ (l.length : Int) - i < n) : takeM l i 0 n = ((l.drop i).take n.toNat, i + n.toNat, 0) := by unfold takeM; rw [if_neg (by simp), if_neg h0, if_neg h]

theorem zer_bs {w : World} {g : Nat} (h : w.heap[g]? = some (.cells zer.toArray 5 (0, 0))) : Bs w (some ⟨g, 0, none⟩) 32 (List.replicate 32 0) := by
  have hr : Row w g (List.replicate 32 0) := by unfold Row; rw [h]; rfl
  have := hr.bs (by intro x hx; have := List.eq_of_mem_replicate hx; omega)
  rwa [List.length_replicate] at this

theorem done_small (K b off C : Nat) (l : List Int) (i : Nat) (e' : Int) (hK : K ≤ 3) (w : World) (x : Ending) (w' : World) (h : x = .returned (.tuple #[.agg #[.slice (some ⟨b, off, none⟩) l.length C, .int .i64 i, .int .i64 e'], .agg #[.int .u64 0, .slice none 0 0]]) ∧ Below w.heap.size w w') :
    Done K b off C l ([], i, e') w x w' := by
  have e1 : toldN K [] = 0 := by unfold toldN; split <;> rfl
  have e2 : toldB K [] = [] := by unfold toldB; split
                                  · rfl
                                  · rw [if_pos (by omega)]
  refine ⟨none, 0, ?_, ?_, h.2, by simp⟩
  · simp only [e1, e2]; exact h.1
  · rw [e2]; exact Bs.nil _ _
theorem done_four (b off C : Nat) (l : List Int) (i : Nat) (e' : Int) (w : World) (x : Ending) (w' : World) (g : Nat) (hg : w.heap.size ≤ g) (h : x = .returned (.tuple #[.agg #[.slice (some ⟨b, off, none⟩) l.length C, .int .i64 i, .int .i64 e'], .agg #[.int .u64 0, .slice (some ⟨g, 0, none⟩) 32 32]]) ∧ Below w.heap.size w w' ∧ w'.heap[g]? = some (.cells zer.toArray 5 (0, 0))) :
    Done 4 b off C l ([], i, e') w x w' := by
  have e1 : toldN 4 [] = 0 := rfl
  have e2 : toldB 4 [] = List.replicate 32 0 := rfl
  refine ⟨some ⟨g, 0, none⟩, 32, ?_, ?_, h.2.1, by intro y hy; simp only [Option.some.injEq] at hy; subst hy; exact .inr hg⟩
  · simp only [e1, e2, List.length_replicate]; exact h.1
  · rw [e2, List.length_replicate]; exact zer_bs h.2.2

theorem do_any (K : Nat) (hK : K ≤ 4) (b off C : Nat) (l : List Int) (i : Nat) (e N : Int) (w : World) (hB : Bs w (some ⟨b, off, none⟩) l.length l) (hil : i ≤ l.length) (hl : l.length ≤ 140737488355328) (hC : l.length ≤ C) :
    Calls Try.prog 22 #[.agg #[.slice (some ⟨b, off, none⟩) l.length C, .int .i64 i, .int .i64 e], .agg #[.int .i64 K, .int .i64 N]] w (Done K b off C l (takeM l i e (askN K N)) w) := by
  rcases (show K = 0 ∨ K = 1 ∨ K = 2 ∨ K = 3 ∨ K = 4 by omega) with rfl | rfl | rfl | rfl | rfl
  · have hk : askN 0 N = 2 := rfl
    rw [hk]
    by_cases he : e = 0
    · subst he
      by_cases hs : (l.length : Int) - i < 2
      · rw [takeM_short l i 2 (by omega) hs]
        exact (do_short0 _ _ _ i N w (by omega) (by omega) hl hs).mono fun x w' h => done_small 0 b off C l i 110 (by omega) w x w' h
      · rw [takeM_ok l i 2 (by omega) hs]
        have hcut := Bs.cut (i := i) (n := 2) hB (by omega) hC
        rw [if_neg (by omega)] at hcut
        refine (do_ok0 b off l.length C i N ((l.drop i).take 2) w (by omega) hC hl (by omega) (by simpa using hcut)).mono fun x w' h => ?_
        exact ⟨none, 0, by simpa [toldN, toldB] using h.1, Bs.nil _ _, h.2, by simp⟩
    · rw [takeM_err l i e 2 he]
      exact (do_err0 _ _ _ i e N w he).mono fun x w' h => done_small 0 b off C l i e (by omega) w x w' h
  · have hk : askN 1 N = 4 := rfl
    rw [hk]
    by_cases he : e = 0
    · subst he
      by_cases hs : (l.length : Int) - i < 4
      · rw [takeM_short l i 4 (by omega) hs]
        exact (do_short1 _ _ _ i N w (by omega) (by omega) hl hs).mono fun x w' h => done_small 1 b off C l i 110 (by omega) w x w' h
      · rw [takeM_ok l i 4 (by omega) hs]
        have hcut := Bs.cut (i := i) (n := 4) hB (by omega) hC
        rw [if_neg (by omega)] at hcut
        refine (do_ok1 b off l.length C i N ((l.drop i).take 4) w (by omega) hC hl (by omega) (by simpa using hcut)).mono fun x w' h => ?_
        exact ⟨none, 0, by simpa [toldN, toldB] using h.1, Bs.nil _ _, h.2, by simp⟩
    · rw [takeM_err l i e 4 he]
      exact (do_err1 _ _ _ i e N w he).mono fun x w' h => done_small 1 b off C l i e (by omega) w x w' h
  · have hk : askN 2 N = 8 := rfl
    rw [hk]
    by_cases he : e = 0
    · subst he
      by_cases hs : (l.length : Int) - i < 8
      · rw [takeM_short l i 8 (by omega) hs]
        exact (do_short2 _ _ _ i N w (by omega) (by omega) hl hs).mono fun x w' h => done_small 2 b off C l i 110 (by omega) w x w' h
      · rw [takeM_ok l i 8 (by omega) hs]
        have hcut := Bs.cut (i := i) (n := 8) hB (by omega) hC
        rw [if_neg (by omega)] at hcut
        refine (do_ok2 b off l.length C i N ((l.drop i).take 8) w (by omega) hC hl (by omega) (by simpa using hcut)).mono fun x w' h => ?_
        exact ⟨none, 0, by simpa [toldN, toldB] using h.1, Bs.nil _ _, h.2, by simp⟩
    · rw [takeM_err l i e 8 he]
      exact (do_err2 _ _ _ i e N w he).mono fun x w' h => done_small 2 b off C l i e (by omega) w x w' h
  · have hk : askN 3 N = N := rfl
    rw [hk]
    by_cases he : e = 0
    · subst he
      by_cases hN : N < 0
      · rw [takeM_neg l i N hN]
        exact (do_neg3 _ _ _ i N w hN).mono fun x w' h => done_small 3 b off C l i 2 (by omega) w x w' h
      · by_cases hs : (l.length : Int) - i < N
        · rw [takeM_short l i N hN hs]
          exact (do_short3 _ _ _ i N w (by omega) (by omega) hl hs hN).mono fun x w' h => done_small 3 b off C l i 110 (by omega) w x w' h
        · rw [takeM_ok l i N hN hs]
          have hcut := Bs.cut (i := i) (n := N.toNat) hB (by omega) hC
          have e1 : ((l.drop i).take N.toNat).length = N.toNat := by simp; omega
          have e2 : ((i : Int) + N).toNat - i = N.toNat := by omega
          have e3 : ((i + N.toNat : Nat) : Int) = (i : Int) + N := by omega
          have e4 : toldB 3 ((l.drop i).take N.toNat) = (l.drop i).take N.toNat := rfl
          by_cases hCi : C = i
          · rw [if_pos hCi] at hcut
            refine (do_ok3e b off l.length C i N w (by omega) hC hl (by omega) (by simpa using hCi) (by omega)).mono fun x w' h => ?_
            refine ⟨some ⟨b, off, none⟩, C - i, ?_, ?_, h.2, by intro y hy; simp only [Option.some.injEq] at hy; subst hy; exact .inl rfl⟩
            · rw [h.1]; simp only [e4, e1, e3, Int.toNat_natCast, e2]; rfl
            · simp only [e4, e1]; exact hcut.below h.2
          · rw [if_neg hCi] at hcut
            refine (do_ok3 b off l.length C i N w (by omega) hC hl (by omega) (by simpa using hCi) (by omega)).mono fun x w' h => ?_
            refine ⟨some ⟨b, off + i, none⟩, C - i, ?_, ?_, h.2, by intro y hy; simp only [Option.some.injEq] at hy; subst hy; exact .inl rfl⟩
            · rw [h.1]; simp only [e4, e1, e3, Int.toNat_natCast, e2]; rfl
            · simp only [e4, e1]; exact hcut.below h.2
    · rw [takeM_err l i e N he]
      exact (do_err3 _ _ _ i e N w he).mono fun x w' h => done_small 3 b off C l i e (by omega) w x w' h
  · have hk : askN 4 N = 32 := rfl
    rw [hk]
    by_cases he : e = 0
    · subst he
      by_cases hs : (l.length : Int) - i < 32
      · rw [takeM_short l i 32 (by omega) hs]
        exact (do_short4 _ _ _ i N w (by omega) (by omega) hl hs).mono fun x w' h => done_four b off C l i 110 w x w' _ (by omega) h
      · rw [takeM_ok l i 32 (by omega) hs]
        have hcut := Bs.cut (i := i) (n := 32) hB (by omega) hC
        rw [if_neg (by omega)] at hcut
        have e1 : ((l.drop i).take 32).length = 32 := by simp; omega
        have e2 : ((i : Int) + 32).toNat - i = 32 := by omega
        have e4 : toldB 4 ((l.drop i).take (32 : Int).toNat) = (l.drop i).take 32 := by
          show (l.drop i).take 32 ++ List.replicate (32 - ((l.drop i).take 32).length) 0 = _
          rw [e1]; simp
        refine (do_ok4 b off l.length C i N w (by omega) hC hl (by omega)).mono fun x w' h => ?_
        refine ⟨some ⟨b, off + i, none⟩, C - i, ?_, ?_, h.2, by intro y hy; simp only [Option.some.injEq] at hy; subst hy; exact .inl rfl⟩
        · rw [h.1]; simp only [e4, e1, Int.toNat_natCast, e2]; rfl
        · simp only [e4, e1]; exact hcut.below h.2
    · rw [takeM_err l i e 32 he]
      exact (do_err4 _ _ _ i e N w he).mono fun x w' h => done_four b off C l i e w x w' _ (by omega) h
end Go.Proofs.Ytcbdjijkliknoaa
