/-
  How a text comes in.
-/
import Derived.Test.YtdfcdklnngfhkaaDoorShaLaid
import Derived.ChangeMaps5
namespace Go.Proofs.YtdfcdklnngfhkaaDoor
open Go.ChangeShapes Go.WideShapes Go.ChangeAt Go.RowKit
set_option maxRecDepth 100000
set_option linter.unusedVariables false
theorem open_text {H : Type} {enc : TypeId × Value → H} {W : World} {base : Nat} {v : Value} {d : DataW H} {p : List MemPlace} (hval : Value.okWide Tryd.prog W .any base 9 v) (h : DataW.Trod enc Tryd.prog W 0 (fun _ => true) true 9 v d p) (hs : ∀ bytes, d = .lit (.string bytes) → bytes.length ≤ reachBytes) : ∃ s : ByteArray, v = .string s ∧ s.size ≤ 140737488351232 := by
  obtain ⟨s, h1, h2, _, _⟩ := Go.ChangeMaps.open_string Tryd.underlying9 hval h
  have := hs _ h2
  unfold reachBytes at this
  exact ⟨s, h1, by simpa using this⟩
end Go.Proofs.YtdfcdklnngfhkaaDoor
