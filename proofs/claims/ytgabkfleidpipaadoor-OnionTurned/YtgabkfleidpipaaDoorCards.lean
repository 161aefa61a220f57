/-
  DERIVED. GIVEN WITH THE SEED: THE CARDS: each row of YtgabkfleidpipaaDoorRows.lean that lists a variable, with what it lists TIED to the program's text (the seventh form; the later family's looks); each row that meets fmt, with fmt's text TOLD by the authors' own Lean function (tested against real Go, not proved from fmt's source: count such statements apart). THE CARD IS WHAT COUNTS. Prove the row's statement (the work); the ties are given (YtgabkfleidpipaaDoorTie.lean); close each card by the builder's one call (the guide's Derived/Test/ToyasCard.lean, 'card_holds'). Laid BY PROGRAM, IN A SANDBOX (cutbox-door.mjs). By AI agents, Wed Nov 11 2026. No macro, syntax, notation, axiom, sorry.
-/
import Derived.Test.YtgabkfleidpipaaDoorRows
import GoSem.ClaimSeven
namespace Go.Proofs.YtgabkfleidpipaaDoor
namespace Rows

/-- THE TIED CARD OF 'hollowtreelaw15.OnionThrough'. -/
def onionThroughCard : Claim7 := { stood := { row := onionThroughRow, standIns := [], harness := (true, "7bc3794a50858c52aa3e5f3f1b8a11c992fea91de7da3147bc5f9f8dad19929e"), looks := false }, kinds := [], alts := [], laidByText := true, laidKinds := [.data], laidTests := true, laidLooks := .later }
def OnionThroughCardSaid : Prop := Claim7.holds Tryd.pinned (.plain (OpenSpec.ofChange onionThroughSpec)) onionThroughCard

/-- THE TIED CARD OF 'hollowtreelaw15.OnionTurned'. -/
def onionTurnedCard : Claim7 := { stood := { row := onionTurnedRow, standIns := [], harness := (true, "7bc3794a50858c52aa3e5f3f1b8a11c992fea91de7da3147bc5f9f8dad19929e"), looks := false }, kinds := [], alts := [], laidByText := true, laidKinds := [.data], laidTests := true, laidLooks := .later }
def OnionTurnedCardSaid : Prop := Claim7.holds Tryd.pinned (.plain (OpenSpec.ofChange onionTurnedSpec)) onionTurnedCard

/-- THE TIED CARD OF 'hollowtreelaw15.OnionLengths'. -/
def onionLengthsCard : Claim7 := { stood := { row := onionLengthsRow, standIns := [], harness := (true, "7bc3794a50858c52aa3e5f3f1b8a11c992fea91de7da3147bc5f9f8dad19929e"), looks := false }, kinds := [], alts := [], laidByText := true, laidKinds := [.data], laidTests := true, laidLooks := .later }
def OnionLengthsCardSaid : Prop := Claim7.holds Tryd.pinned (.plain (OpenSpec.ofChange onionLengthsSpec)) onionLengthsCard

/-- THE SECOND FORM's CARD OF 'hollowtreelaw15.OnionThrough'. -/
def onionThroughUptoCard : Claim7 := { stood := { row := onionThroughUptoRow, standIns := [], harness := (true, "7bc3794a50858c52aa3e5f3f1b8a11c992fea91de7da3147bc5f9f8dad19929e"), looks := false }, kinds := [], alts := [], laidByText := true, laidKinds := [.data], laidTests := true, laidLooks := .later }
def OnionThroughUptoCardSaid : Prop := Claim7.holds Tryd.pinned (.plain (OpenSpec.upto onionThroughSpec)) onionThroughUptoCard

/-- THE SECOND FORM's CARD OF 'hollowtreelaw15.OnionTurned'. -/
def onionTurnedUptoCard : Claim7 := { stood := { row := onionTurnedUptoRow, standIns := [], harness := (true, "7bc3794a50858c52aa3e5f3f1b8a11c992fea91de7da3147bc5f9f8dad19929e"), looks := false }, kinds := [], alts := [], laidByText := true, laidKinds := [.data], laidTests := true, laidLooks := .later }
def OnionTurnedUptoCardSaid : Prop := Claim7.holds Tryd.pinned (.plain (OpenSpec.upto onionTurnedSpec)) onionTurnedUptoCard

/-- THE SECOND FORM's CARD OF 'hollowtreelaw15.OnionLengths'. -/
def onionLengthsUptoCard : Claim7 := { stood := { row := onionLengthsUptoRow, standIns := [], harness := (true, "7bc3794a50858c52aa3e5f3f1b8a11c992fea91de7da3147bc5f9f8dad19929e"), looks := false }, kinds := [], alts := [], laidByText := true, laidKinds := [.data], laidTests := true, laidLooks := .later }
def OnionLengthsUptoCardSaid : Prop := Claim7.holds Tryd.pinned (.plain (OpenSpec.upto onionLengthsSpec)) onionLengthsUptoCard
end Rows
end Go.Proofs.YtgabkfleidpipaaDoor
