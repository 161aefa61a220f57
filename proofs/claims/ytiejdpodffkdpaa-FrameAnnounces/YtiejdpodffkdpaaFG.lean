/-
  Layer 14: envelopes.
-/
import Derived.Test.YtiejdpodffkdpaaFF
namespace Go.Proofs.Ytiejdpodffkdpaa
open Go.RowKit
set_option maxRecDepth 100000
set_option linter.unusedSimpArgs false
set_option linter.unusedVariables false
/-- may an envelope be? -/
def evR (k s : Int) (B : List Int) : Bool := (k == 1) || ((k == 0) && ((s == 0) && allZ B))
/-- an envelope's bytes -/
def evB (k a s : Int) (B : List Int) : List Int := (([k] ++ lowL a 4) ++ lowL s 4) ++ B
theorem evl_setb (k a s : Int) (B B' : List Int) (h : B'.length = B.length) : sp (evl k a s B) 3 (bv B') = evl k a s B' := by
  have := sp_mid (bv B') [.int .i64 k, .int .u32 a, .int .u32 s] (bv B) [] (by rw [bv_len, bv_len, h])
  rw [evl_body, evl_body]
  exact this
theorem evR_kind {k s : Int} {B : List Int} (h : evR k s B = true) : k = 0 ∨ k = 1 := by
  unfold evR at h
  simp only [Bool.or_eq_true, Bool.and_eq_true, beq_iff_eq] at h
  omega
theorem ev_load {w : World} {g : Nat} {k a s : Int} {B : List Int} {t : TypeId} (h : w.heap[g]? = some (.cells (evl k a s B).toArray t (0, 0))) : w.cell? ⟨g, 0, none⟩ = some (.int .i64 k) ∧ w.cell? ⟨g, 1, none⟩ = some (.int .u32 a) ∧ w.cell? ⟨g, 2, none⟩ = some (.int .u32 s) := ⟨cell_of h rfl, cell_of h rfl, cell_of h rfl⟩
/-- what a Put that may refuse answers -/
def Pok (L : List Int) (w : World) (r : Ending) (w' : World) : Prop := ∃ v, r = .returned (.tuple #[v, .int .i64 0]) ∧ Ob w.heap.size w' v L ∧ Gr w w'
def Pno (w : World) (r : Ending) (w' : World) : Prop := r = .returned (.tuple #[.slice none 0 0, .int .i64 241]) ∧ Gr w w'
/-- an envelope of bytes, as they seem -/
def evO (L : List Int) : List Value := evl (L.getD 0 0) (lowN ((L.drop 1).take 4)) (lowN ((L.drop 5).take 4)) ((L.drop 9).take 105)
def evRO (L : List Int) : Bool := evR (L.getD 0 0) (lowN ((L.drop 5).take 4)) ((L.drop 9).take 105)
theorem ev_set0 (k a s x : Int) (B : List Int) : (evl k a s B).toArray.setIfInBounds 0 (.int .i64 x) = (evl x a s B).toArray := by simp [evl]
theorem ev_set1 (k a s x : Int) (B : List Int) : (evl k a s B).toArray.setIfInBounds 1 (.int .u32 x) = (evl k x s B).toArray := by simp [evl]
theorem ev_set2 (k a s x : Int) (B : List Int) : (evl k a s B).toArray.setIfInBounds 2 (.int .u32 x) = (evl k a x B).toArray := by simp [evl]
end Go.Proofs.Ytiejdpodffkdpaa
