/-
  Plain facts on X: in whatever order; which bits count.
-/
import Derived.Test.YtpmgmpihmpifgaaDoorUPublic
namespace Go.Proofs.YtpmgmpihmpifgaaDoor.Cv
open Go.RowKit
set_option maxRecDepth 100000

theorem xN_lt (M U : Nat) : (xN M U : Int) < Ed.p := by
  rw [xN_cast, pp_p]
  exact Int.emod_lt_of_pos _ (by decide)
/-- the contracts, with answers that are letters -/
theorem x_n (M U : Nat) (w : World) : Calls Tryd.prog 40 #[.agg (kc (digs (M : Int) 32)), .agg (kc (digs (U : Int) 32))] w (fun r w' => ∃ n : Nat, r = .returned (.agg (kc (digs (n : Int) 32))) ∧ Hid (n = xN M U) ∧ Gr w w') :=
  (x_at M U w).mono fun _ _ h => ⟨_, h.1, rfl, h.2⟩
end Go.Proofs.YtpmgmpihmpifgaaDoor.Cv

