/-
  Bytes xored with the stream, by the reference.
-/
import Derived.Test.YtdekjbdkpchbjabChaRB
namespace Go.Proofs.Ytdekjbdkpchbjab
open Go.RowKit
set_option maxRecDepth 100000
set_option linter.unusedSimpArgs false
set_option linter.unusedVariables false
/-- blocks of another kind stay as bytes are put behind others -/
theorem Bl.grown {w v v' : World} {L : List Blk} (h : Bl w L v) {b : Nat} {x : Value} {M : List Int} (ho : Ob b v x M) (hb : w.heap.size ≤ b) (k : v.grownBy v' x.ownBlock) (ht : ∀ y ∈ L, y.t ≠ 5) : Bl w L v' := by
  refine ⟨Ob.grown ho hb h.gr k, fun y hy => ?_, h.ne⟩
  obtain ⟨h1, h2⟩ := h.at_ y hy
  refine ⟨?_, h2⟩
  rw [k.block y.g (lt_of_block h1) ?_]
  · exact h1
  · intro e
    rcases ho.2 with ⟨rfl, _⟩ | ⟨g, cap, cur, rfl, _, h3, _⟩
    · cases e
    · have e2 : y.g = g := by simpa [Value.ownBlock] using e
      rw [e2] at h1
      rw [h3] at h1
      simp only [Blk.obj, Option.some.injEq, Obj.cells.injEq] at h1
      exact ht y hy h1.2.1.symm
/-- the first m bytes -/
def pre (K N : List Int) (c : Int) (B : List Int) (m : Nat) : List Int := (List.range m).map (xf K N c B)
theorem pre_len (K N : List Int) (c : Int) (B : List Int) (m : Nat) : (pre K N c B m).length = m := by simp [pre]
theorem pre_succ (K N : List Int) (c : Int) (B : List Int) (m : Nat) : pre K N c B m ++ [xf K N c B m] = pre K N c B (m + 1) := by
  unfold pre
  rw [List.range_succ, List.map_append]
  rfl
def Xr (K N : List Int) (c : Int) (B : List Int) (w : World) (r : Ending) (w' : World) : Prop := ∃ v, r = .returned v ∧ Ob w.heap.size w' v (xl K N c B) ∧ Gr w w'
theorem Ob.other {b : Nat} {w : World} {v : Value} {L : List Int} (h : Ob b w v L) {g : Nat} {c : Array Value} {t : TypeId} (hg : w.heap[g]? = some (.cells c t (0, 0))) (ht : t ≠ 5) (cs : Array Value) : Ob b (w.setRow g cs) v L := by
  rcases h with ⟨h0, h1 | ⟨g', cap, cur, h1, h2, h3, h4⟩⟩
  · exact ⟨h0, .inl h1⟩
  · refine ⟨h0, .inr ⟨g', cap, cur, h1, h2, ?_, h4⟩⟩
    have hne : g' ≠ g := by
      rintro rfl
      rw [hg] at h3
      simp only [Option.some.injEq, Obj.cells.injEq] at h3
      exact ht h3.2.1
    exact (setRow_other w g g' cs hne).trans h3
end Go.Proofs.Ytdekjbdkpchbjab
