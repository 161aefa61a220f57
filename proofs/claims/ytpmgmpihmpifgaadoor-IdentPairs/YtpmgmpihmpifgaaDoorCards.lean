/-
  DERIVED. GIVEN WITH THE SEED: THE CARDS: each row of YtpmgmpihmpifgaaDoorRows.lean that lists a variable, with what it lists TIED to the program's text (the seventh form; the later family's looks); each row that meets fmt, with fmt's text TOLD by the authors' own Lean function (tested against real Go, not proved from fmt's source: count such statements apart). THE CARD IS WHAT COUNTS. Prove the row's statement (the work); the ties are given (YtpmgmpihmpifgaaDoorTie.lean); close each card by the builder's one call (the guide's Derived/Test/ToyasCard.lean, 'card_holds'). Laid BY PROGRAM, IN A SANDBOX (cutbox-door.mjs). By AI agents, Wed Nov 11 2026. No macro, syntax, notation, axiom, sorry.
-/
import Derived.Test.YtpmgmpihmpifgaaDoorRows
import GoSem.ClaimSeven
namespace Go.Proofs.YtpmgmpihmpifgaaDoor
namespace Rows

/-- THE TIED CARD OF 'hollowtreelaw16.IdentNames'. -/
def identNamesCard : Claim7 := { stood := { row := identNamesRow, standIns := [], harness := (true, "1defaa1d49654b3fa3605f70f92e4bd8e8a228ba566912ff3afd689cc903da9f"), looks := false }, kinds := [], alts := [], laidByText := true, laidKinds := [.data], laidTests := true, laidLooks := .later }
def IdentNamesCardSaid : Prop := Claim7.holds Tryd.pinned (.plain (OpenSpec.ofChange identNamesSpec)) identNamesCard

/-- THE TIED CARD OF 'hollowtreelaw16.IdentTexts'. -/
def identTextsCard : Claim7 := { stood := { row := identTextsRow, standIns := [], harness := (true, "1defaa1d49654b3fa3605f70f92e4bd8e8a228ba566912ff3afd689cc903da9f"), looks := false }, kinds := [], alts := [], laidByText := true, laidKinds := [.data], laidTests := true, laidLooks := .later }
def IdentTextsCardSaid : Prop := Claim7.holds Tryd.pinned (.plain (OpenSpec.ofChange identTextsSpec)) identTextsCard

/-- THE TIED CARD OF 'hollowtreelaw16.IdentPairs'. -/
def identPairsCard : Claim7 := { stood := { row := identPairsRow, standIns := [], harness := (true, "1defaa1d49654b3fa3605f70f92e4bd8e8a228ba566912ff3afd689cc903da9f"), looks := false }, kinds := [], alts := [], laidByText := true, laidKinds := [.data], laidTests := true, laidLooks := .later }
def IdentPairsCardSaid : Prop := Claim7.holds Tryd.pinned (.plain (OpenSpec.ofChange identPairsSpec)) identPairsCard

/-- THE TIED CARD OF 'hollowtreelaw16.IdentRounds'. -/
def identRoundsCard : Claim7 := { stood := { row := identRoundsRow, standIns := [], harness := (true, "1defaa1d49654b3fa3605f70f92e4bd8e8a228ba566912ff3afd689cc903da9f"), looks := false }, kinds := [], alts := [], laidByText := true, laidKinds := [.data], laidTests := true, laidLooks := .later }
def IdentRoundsCardSaid : Prop := Claim7.holds Tryd.pinned (.plain (OpenSpec.ofChange identRoundsSpec)) identRoundsCard

/-- THE TIED CARD OF 'hollowtreelaw16.IdentBack'. -/
def identBackCard : Claim7 := { stood := { row := identBackRow, standIns := [], harness := (true, "1defaa1d49654b3fa3605f70f92e4bd8e8a228ba566912ff3afd689cc903da9f"), looks := false }, kinds := [], alts := [], laidByText := true, laidKinds := [.data], laidTests := true, laidLooks := .later }
def IdentBackCardSaid : Prop := Claim7.holds Tryd.pinned (.plain (OpenSpec.ofChange identBackSpec)) identBackCard

/-- THE TIED CARD OF 'hollowtreelaw16.IdentShares'. -/
def identSharesCard : Claim7 := { stood := { row := identSharesRow, standIns := [], harness := (true, "1defaa1d49654b3fa3605f70f92e4bd8e8a228ba566912ff3afd689cc903da9f"), looks := false }, kinds := [], alts := [], laidByText := true, laidKinds := [.data], laidTests := true, laidLooks := .later }
def IdentSharesCardSaid : Prop := Claim7.holds Tryd.pinned (.plain (OpenSpec.ofChange identSharesSpec)) identSharesCard

/-- THE SECOND FORM's CARD OF 'hollowtreelaw16.IdentNames'. -/
def identNamesUptoCard : Claim7 := { stood := { row := identNamesUptoRow, standIns := [], harness := (true, "1defaa1d49654b3fa3605f70f92e4bd8e8a228ba566912ff3afd689cc903da9f"), looks := false }, kinds := [], alts := [], laidByText := true, laidKinds := [.data], laidTests := true, laidLooks := .later }
def IdentNamesUptoCardSaid : Prop := Claim7.holds Tryd.pinned (.plain (OpenSpec.upto identNamesSpec)) identNamesUptoCard

/-- THE SECOND FORM's CARD OF 'hollowtreelaw16.IdentTexts'. -/
def identTextsUptoCard : Claim7 := { stood := { row := identTextsUptoRow, standIns := [], harness := (true, "1defaa1d49654b3fa3605f70f92e4bd8e8a228ba566912ff3afd689cc903da9f"), looks := false }, kinds := [], alts := [], laidByText := true, laidKinds := [.data], laidTests := true, laidLooks := .later }
def IdentTextsUptoCardSaid : Prop := Claim7.holds Tryd.pinned (.plain (OpenSpec.upto identTextsSpec)) identTextsUptoCard

/-- THE SECOND FORM's CARD OF 'hollowtreelaw16.IdentPairs'. -/
def identPairsUptoCard : Claim7 := { stood := { row := identPairsUptoRow, standIns := [], harness := (true, "1defaa1d49654b3fa3605f70f92e4bd8e8a228ba566912ff3afd689cc903da9f"), looks := false }, kinds := [], alts := [], laidByText := true, laidKinds := [.data], laidTests := true, laidLooks := .later }
def IdentPairsUptoCardSaid : Prop := Claim7.holds Tryd.pinned (.plain (OpenSpec.upto identPairsSpec)) identPairsUptoCard

/-- THE SECOND FORM's CARD OF 'hollowtreelaw16.IdentRounds'. -/
def identRoundsUptoCard : Claim7 := { stood := { row := identRoundsUptoRow, standIns := [], harness := (true, "1defaa1d49654b3fa3605f70f92e4bd8e8a228ba566912ff3afd689cc903da9f"), looks := false }, kinds := [], alts := [], laidByText := true, laidKinds := [.data], laidTests := true, laidLooks := .later }
def IdentRoundsUptoCardSaid : Prop := Claim7.holds Tryd.pinned (.plain (OpenSpec.upto identRoundsSpec)) identRoundsUptoCard

/-- THE SECOND FORM's CARD OF 'hollowtreelaw16.IdentBack'. -/
def identBackUptoCard : Claim7 := { stood := { row := identBackUptoRow, standIns := [], harness := (true, "1defaa1d49654b3fa3605f70f92e4bd8e8a228ba566912ff3afd689cc903da9f"), looks := false }, kinds := [], alts := [], laidByText := true, laidKinds := [.data], laidTests := true, laidLooks := .later }
def IdentBackUptoCardSaid : Prop := Claim7.holds Tryd.pinned (.plain (OpenSpec.upto identBackSpec)) identBackUptoCard

/-- THE SECOND FORM's CARD OF 'hollowtreelaw16.IdentShares'. -/
def identSharesUptoCard : Claim7 := { stood := { row := identSharesUptoRow, standIns := [], harness := (true, "1defaa1d49654b3fa3605f70f92e4bd8e8a228ba566912ff3afd689cc903da9f"), looks := false }, kinds := [], alts := [], laidByText := true, laidKinds := [.data], laidTests := true, laidLooks := .later }
def IdentSharesUptoCardSaid : Prop := Claim7.holds Tryd.pinned (.plain (OpenSpec.upto identSharesSpec)) identSharesUptoCard
end Rows
end Go.Proofs.YtpmgmpihmpifgaaDoor
