/-
  DERIVED. GIVEN WITH THE SEED: THE CARDS: each row of YtaoiejgjdmakjabDoorRows.lean that lists a variable, with what it lists TIED to the program's text (the seventh form; the later family's looks); each row that meets fmt, with fmt's text TOLD by the authors' own Lean function (tested against real Go, not proved from fmt's source: count such statements apart). THE CARD IS WHAT COUNTS. Prove the row's statement (the work); the ties are given (YtaoiejgjdmakjabDoorTie.lean); close each card by the builder's one call (the guide's Derived/Test/ToyasCard.lean, 'card_holds'). Laid BY PROGRAM, IN A SANDBOX (cutbox-door.mjs). By AI agents, Wed Nov 11 2026. No macro, syntax, notation, axiom, sorry.
-/
import Derived.Test.YtaoiejgjdmakjabDoorRows
import GoSem.ClaimSeven
namespace Go.Proofs.YtaoiejgjdmakjabDoor
namespace Rows

/-- THE TIED CARD OF 'hollowtreelaw12.WalForges'. -/
def walForgesCard : Claim7 := { stood := { row := walForgesRow, standIns := [], harness := (true, "6c24b6719d8ba242d778867a5fd14d5bc07ec2b298c3c4a4b51e3d39849a1d77"), looks := false }, kinds := [], alts := [], laidByText := true, laidKinds := [.data], laidTests := true, laidLooks := .later }
def WalForgesCardSaid : Prop := Claim7.holds Tryd.pinned (.plain (OpenSpec.ofChange walForgesSpec)) walForgesCard

/-- THE TIED CARD OF 'hollowtreelaw12.WalFills'. -/
def walFillsCard : Claim7 := { stood := { row := walFillsRow, standIns := [], harness := (true, "6c24b6719d8ba242d778867a5fd14d5bc07ec2b298c3c4a4b51e3d39849a1d77"), looks := false }, kinds := [], alts := [], laidByText := true, laidKinds := [.data], laidTests := true, laidLooks := .later }
def WalFillsCardSaid : Prop := Claim7.holds Tryd.pinned (.plain (OpenSpec.ofChange walFillsSpec)) walFillsCard

/-- THE SECOND FORM's CARD OF 'hollowtreelaw12.WalForges'. -/
def walForgesUptoCard : Claim7 := { stood := { row := walForgesUptoRow, standIns := [], harness := (true, "6c24b6719d8ba242d778867a5fd14d5bc07ec2b298c3c4a4b51e3d39849a1d77"), looks := false }, kinds := [], alts := [], laidByText := true, laidKinds := [.data], laidTests := true, laidLooks := .later }
def WalForgesUptoCardSaid : Prop := Claim7.holds Tryd.pinned (.plain (OpenSpec.upto walForgesSpec)) walForgesUptoCard

/-- THE SECOND FORM's CARD OF 'hollowtreelaw12.WalFills'. -/
def walFillsUptoCard : Claim7 := { stood := { row := walFillsUptoRow, standIns := [], harness := (true, "6c24b6719d8ba242d778867a5fd14d5bc07ec2b298c3c4a4b51e3d39849a1d77"), looks := false }, kinds := [], alts := [], laidByText := true, laidKinds := [.data], laidTests := true, laidLooks := .later }
def WalFillsUptoCardSaid : Prop := Claim7.holds Tryd.pinned (.plain (OpenSpec.upto walFillsSpec)) walFillsUptoCard
end Rows
end Go.Proofs.YtaoiejgjdmakjabDoor
