/-
  Layer 14: the reference's records as bytes.
-/
import Derived.Test.YtiejdpodffkdpaaFP
namespace Go.Proofs.Ytiejdpodffkdpaa
open Go.RowKit
set_option maxRecDepth 100000
set_option linter.unusedSimpArgs false
set_option linter.unusedVariables false
/-- slices in a row of their own -/
def Sl1 (C : Array Value) (n : Nat) (u : World) (q : Value) : Prop := ∃ h, q = .slice (some ⟨h, 0, none⟩) n n ∧ u.heap[h]? = some (.cells C 26 (0, 0))
theorem Sl1.gr {C : Array Value} {n : Nat} {u v : World} {q : Value} (h : Sl1 C n u q) (k : Gr u v) : Sl1 C n v q := by
  obtain ⟨p, h1, h2⟩ := h
  exact ⟨p, h1, k.blk h2⟩
theorem lq_of {w : World} {h n : Nat} {C : Array Value} {ps : List (List Int)} (hb : w.heap[h]? = some (.cells C 26 (0, 0))) (hl : ps.length = n) (hn : n < 9223372036854775808) (hc : ∀ i, i < n → ∃ ai ni ci, C[i]? = some (.slice ai ni ci) ∧ Lb w ai ni ci (ps.getD i []) ∧ ni ≤ 140737488351232) : Lq w (some ⟨h, 0, none⟩) n n ps :=
  ⟨hl, .inr ⟨h, 0, rfl, fun i hi => by obtain ⟨ai, ni, ci, h1, h2, h3⟩ := hc i hi; exact ⟨ai, ni, ci, by rw [Nat.zero_add]; exact cell_of hb h1, h2, h3⟩⟩, Nat.le_refl _, hn⟩
theorem lq1 {w : World} {h : Nat} {a1 : Option Addr} {n1 c1 : Nat} {l1 : List Int} (hb : w.heap[h]? = some (.cells #[.slice a1 n1 c1] 26 (0, 0))) (h1 : Lb w a1 n1 c1 l1) (b1 : n1 ≤ 100000) : Lq w (some ⟨h, 0, none⟩) 1 1 [l1] :=
  lq_of hb rfl (by decide) (fun i hi => by obtain rfl : i = 0 := by omega
                                           exact ⟨a1, n1, c1, rfl, h1, by omega⟩)
theorem lq2 {w : World} {h : Nat} {a1 a2 : Option Addr} {n1 c1 n2 c2 : Nat} {l1 l2 : List Int} (hb : w.heap[h]? = some (.cells #[.slice a1 n1 c1, .slice a2 n2 c2] 26 (0, 0))) (h1 : Lb w a1 n1 c1 l1) (h2 : Lb w a2 n2 c2 l2) (b1 : n1 ≤ 100000) (b2 : n2 ≤ 100000) : Lq w (some ⟨h, 0, none⟩) 2 2 [l1, l2] :=
  lq_of hb rfl (by decide) (fun i hi => by
    obtain rfl | rfl : i = 0 ∨ i = 1 := by omega
    · exact ⟨a1, n1, c1, rfl, h1, by omega⟩
    · exact ⟨a2, n2, c2, rfl, h2, by omega⟩)
theorem lq3 {w : World} {h : Nat} {a1 a2 a3 : Option Addr} {n1 c1 n2 c2 n3 c3 : Nat} {l1 l2 l3 : List Int} (hb : w.heap[h]? = some (.cells #[.slice a1 n1 c1, .slice a2 n2 c2, .slice a3 n3 c3] 26 (0, 0))) (h1 : Lb w a1 n1 c1 l1) (h2 : Lb w a2 n2 c2 l2) (h3 : Lb w a3 n3 c3 l3) (b1 : n1 ≤ 100000) (b2 : n2 ≤ 100000) (b3 : n3 ≤ 100000) : Lq w (some ⟨h, 0, none⟩) 3 3 [l1, l2, l3] :=
  lq_of hb rfl (by decide) (fun i hi => by
    obtain rfl | rfl | rfl : i = 0 ∨ i = 1 ∨ i = 2 := by omega
    · exact ⟨a1, n1, c1, rfl, h1, by omega⟩
    · exact ⟨a2, n2, c2, rfl, h2, by omega⟩
    · exact ⟨a3, n3, c3, rfl, h3, by omega⟩)
end Go.Proofs.Ytiejdpodffkdpaa
