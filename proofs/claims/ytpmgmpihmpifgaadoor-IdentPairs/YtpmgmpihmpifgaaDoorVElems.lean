/-
  Cells of a number of the field.
-/
import Derived.Test.YtpmgmpihmpifgaaDoorVWakes
namespace Go.Proofs.YtpmgmpihmpifgaaDoor.Cv
open Go.RowKit
set_option maxRecDepth 100000

/-- cells of a number of the field -/
def EC (n : Int) (c : Array Value) : Prop := ∃ a0 a1 a2 a3 a4, c = #[.int .u64 a0, .int .u64 a1, .int .u64 a2, .int .u64 a3, .int .u64 a4] ∧ Hid (Rep n a0 a1 a2 a3 a4)
theorem EC.size {n : Int} (c : Array Value) (h : EC n c) : c.size = 5 := by
  obtain ⟨_, _, _, _, _, rfl, _⟩ := h; rfl
theorem EC.one {n : Int} (c : Array Value) (h : EC n c) : c.all (·.oneCell') = true := by
  obtain ⟨_, _, _, _, _, rfl, _⟩ := h; simp [Value.oneCell']
theorem Tryd.infoElem : (Tryd.prog.info? 91).map (·.size) = some 5 := by kernel_rfl
end Go.Proofs.YtpmgmpihmpifgaaDoor.Cv
