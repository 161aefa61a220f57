/-
  Layer 14: of which kind bytes are.
-/
import Derived.Test.YtiejdpodffkdpaaFN
namespace Go.Proofs.Ytiejdpodffkdpaa
open Go.RowKit
set_option maxRecDepth 100000
set_option linter.unusedSimpArgs false
set_option linter.unusedVariables false
def aG (L : List Int) : Bool := decide (L.length = 106) && anE L
def uG (L : List Int) : Bool := onS ((L.length : Int) - 11) && (decide (L.getD 0 0 = 2) && pkE L)
def dG (L : List Int) : Bool := rpS ((L.length : Int) - 11) && (decide (L.getD 0 0 = 3) && pkE L)
def kindO (L : List Int) : Int := if aG L = true then 1 else if uG L = true then 2 else if dG L = true then 3 else 0
/-- what a Get answers, whatever it is -/
def Gan (k : Nat) (good : Bool) (w : World) (r : Ending) (w' : World) : Prop := ∃ (x : Array Value) (e : Int), r = .returned (.tuple #[.agg x, .int .i64 e]) ∧ x.size = k ∧ x.all (·.oneCell') = true ∧ decide (e = 0) = good ∧ Gr w w'
theorem geta_any (L : List Int) (a : Option Addr) (n c : Nat) (w : World) (h : Lb w a n c L) : Calls Try.prog 11 #[.slice a n c] w (Gan 2 (aG L) w) := by
  by_cases hn : n = 106
  · subst hn
    cases hE : anE L
    · refine (fgeta_bad L a c w h hE).mono ?_
      rintro r u ⟨rfl, hg⟩
      exact ⟨_, _, rfl, rfl, by simp [Value.oneCell'], by unfold aG; rw [hE]; simp, hg⟩
    · refine (fgeta_ok L a c w h hE).mono ?_
      rintro r u ⟨a2, c2, rfl, _, hg⟩
      exact ⟨_, _, rfl, rfl, by simp [Value.oneCell'], by unfold aG; rw [hE, h.len]; rfl, hg⟩
  · refine (fgeta_no a n c hn w).mono ?_
    rintro r u ⟨rfl, hg⟩
    exact ⟨_, _, rfl, rfl, by simp [Value.oneCell'], by unfold aG; rw [h.len, decide_eq_false hn]; rfl, hg⟩
end Go.Proofs.Ytiejdpodffkdpaa
