/-
  DERIVED. GIVEN WITH THE SEED: THE CARDS: each row of YtaoiejgjdmakjaaDoorRows.lean that lists a variable, with what it lists TIED to the program's text (the seventh form; the later family's looks); each row that meets fmt, with fmt's text TOLD by the authors' own Lean function (tested against real Go, not proved from fmt's source: count such statements apart). THE CARD IS WHAT COUNTS. Prove the row's statement (the work); the ties are given (YtaoiejgjdmakjaaDoorTie.lean); close each card by the builder's one call (the guide's Derived/Test/ToyasCard.lean, 'card_holds'). Laid BY PROGRAM, IN A SANDBOX (cutbox-door.mjs). By AI agents, Wed Nov 11 2026. No macro, syntax, notation, axiom, sorry.
-/
import Derived.Test.YtaoiejgjdmakjaaDoorRows
import GoSem.ClaimSeven
namespace Go.Proofs.YtaoiejgjdmakjaaDoor
namespace Rows

/-- THE TIED CARD OF 'hollowtreelaw12.WalDoes'. -/
def walDoesCard : Claim7 := { stood := { row := walDoesRow, standIns := [], harness := (true, "584b88653da55dfc034e1e926d3eab91d5edfbc1cb0e12843a350052964bd983"), looks := false }, kinds := [], alts := [], laidByText := true, laidKinds := [.data], laidTests := true, laidLooks := .later }
def WalDoesCardSaid : Prop := Claim7.holds Tryd.pinned (.plain (OpenSpec.ofChange walDoesSpec)) walDoesCard

/-- THE TIED CARD OF 'hollowtreelaw12.WalLays'. -/
def walLaysCard : Claim7 := { stood := { row := walLaysRow, standIns := [], harness := (true, "584b88653da55dfc034e1e926d3eab91d5edfbc1cb0e12843a350052964bd983"), looks := false }, kinds := [], alts := [], laidByText := true, laidKinds := [.data], laidTests := true, laidLooks := .later }
def WalLaysCardSaid : Prop := Claim7.holds Tryd.pinned (.plain (OpenSpec.ofChange walLaysSpec)) walLaysCard

/-- THE TIED CARD OF 'hollowtreelaw12.WalNeeds'. -/
def walNeedsCard : Claim7 := { stood := { row := walNeedsRow, standIns := [], harness := (true, "584b88653da55dfc034e1e926d3eab91d5edfbc1cb0e12843a350052964bd983"), looks := false }, kinds := [], alts := [], laidByText := true, laidKinds := [.data], laidTests := true, laidLooks := .later }
def WalNeedsCardSaid : Prop := Claim7.holds Tryd.pinned (.plain (OpenSpec.ofChange walNeedsSpec)) walNeedsCard

/-- THE TIED CARD OF 'hollowtreelaw12.WalNone'. -/
def walNoneCard : Claim7 := { stood := { row := walNoneRow, standIns := [], harness := (true, "584b88653da55dfc034e1e926d3eab91d5edfbc1cb0e12843a350052964bd983"), looks := false }, kinds := [], alts := [], laidByText := true, laidKinds := [.data], laidTests := true, laidLooks := .later }
def WalNoneCardSaid : Prop := Claim7.holds Tryd.pinned (.plain (OpenSpec.ofChange walNoneSpec)) walNoneCard

/-- THE SECOND FORM's CARD OF 'hollowtreelaw12.WalDoes'. -/
def walDoesUptoCard : Claim7 := { stood := { row := walDoesUptoRow, standIns := [], harness := (true, "584b88653da55dfc034e1e926d3eab91d5edfbc1cb0e12843a350052964bd983"), looks := false }, kinds := [], alts := [], laidByText := true, laidKinds := [.data], laidTests := true, laidLooks := .later }
def WalDoesUptoCardSaid : Prop := Claim7.holds Tryd.pinned (.plain (OpenSpec.upto walDoesSpec)) walDoesUptoCard

/-- THE SECOND FORM's CARD OF 'hollowtreelaw12.WalLays'. -/
def walLaysUptoCard : Claim7 := { stood := { row := walLaysUptoRow, standIns := [], harness := (true, "584b88653da55dfc034e1e926d3eab91d5edfbc1cb0e12843a350052964bd983"), looks := false }, kinds := [], alts := [], laidByText := true, laidKinds := [.data], laidTests := true, laidLooks := .later }
def WalLaysUptoCardSaid : Prop := Claim7.holds Tryd.pinned (.plain (OpenSpec.upto walLaysSpec)) walLaysUptoCard

/-- THE SECOND FORM's CARD OF 'hollowtreelaw12.WalNeeds'. -/
def walNeedsUptoCard : Claim7 := { stood := { row := walNeedsUptoRow, standIns := [], harness := (true, "584b88653da55dfc034e1e926d3eab91d5edfbc1cb0e12843a350052964bd983"), looks := false }, kinds := [], alts := [], laidByText := true, laidKinds := [.data], laidTests := true, laidLooks := .later }
def WalNeedsUptoCardSaid : Prop := Claim7.holds Tryd.pinned (.plain (OpenSpec.upto walNeedsSpec)) walNeedsUptoCard

/-- THE SECOND FORM's CARD OF 'hollowtreelaw12.WalNone'. -/
def walNoneUptoCard : Claim7 := { stood := { row := walNoneUptoRow, standIns := [], harness := (true, "584b88653da55dfc034e1e926d3eab91d5edfbc1cb0e12843a350052964bd983"), looks := false }, kinds := [], alts := [], laidByText := true, laidKinds := [.data], laidTests := true, laidLooks := .later }
def WalNoneUptoCardSaid : Prop := Claim7.holds Tryd.pinned (.plain (OpenSpec.upto walNoneSpec)) walNoneUptoCard
end Rows
end Go.Proofs.YtaoiejgjdmakjaaDoor
