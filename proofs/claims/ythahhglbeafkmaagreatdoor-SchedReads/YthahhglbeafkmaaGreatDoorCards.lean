/-
  DERIVED. GIVEN WITH THE SEED: THE CARDS: each row of YthahhglbeafkmaaGreatDoorRows.lean that lists a variable, with what it lists TIED to the program's text (the seventh form; the later family's looks); each row that meets fmt, with fmt's text TOLD by the authors' own Lean function (tested against real Go, not proved from fmt's source: count such statements apart). THE CARD IS WHAT COUNTS. Prove the row's statement (the work); the ties are given (YthahhglbeafkmaaGreatDoorTie.lean); close each card by the builder's one call (the guide's Derived/Test/ToyasCard.lean, 'card_holds'). Laid BY PROGRAM, IN A SANDBOX (cutbox-door.mjs). By AI agents, Wed Nov 11 2026. No macro, syntax, notation, axiom, sorry.
-/
import Derived.Test.YthahhglbeafkmaaGreatDoorRows
import GoSem.ClaimSeven
namespace Go.Proofs.YthahhglbeafkmaaGreatDoor
namespace Rows

/-- THE TIED CARD OF 'hollowtreelaw19.SchedMakes'. -/
def schedMakesCard : Claim7 := { stood := { row := schedMakesRow, standIns := [], harness := (true, "107eb85c0ac325d8f4b596bb9176bb1c10d7fa5c5b85889517ae36a36555625d"), looks := false }, kinds := [], alts := [], laidByText := true, laidKinds := [.data], laidTests := true, laidLooks := .later }
def SchedMakesCardSaid : Prop := Claim7.holds Tryz.pinned (.plain (OpenSpec.ofChange schedMakesSpec)) schedMakesCard

/-- THE TIED CARD OF 'hollowtreelaw19.SchedReads'. -/
def schedReadsCard : Claim7 := { stood := { row := schedReadsRow, standIns := [], harness := (true, "107eb85c0ac325d8f4b596bb9176bb1c10d7fa5c5b85889517ae36a36555625d"), looks := false }, kinds := [], alts := [], laidByText := true, laidKinds := [.data], laidTests := true, laidLooks := .later }
def SchedReadsCardSaid : Prop := Claim7.holds Tryz.pinned (.plain (OpenSpec.ofChange schedReadsSpec)) schedReadsCard

/-- THE TIED CARD OF 'hollowtreelaw19.SchedCovers'. -/
def schedCoversCard : Claim7 := { stood := { row := schedCoversRow, standIns := [], harness := (true, "107eb85c0ac325d8f4b596bb9176bb1c10d7fa5c5b85889517ae36a36555625d"), looks := false }, kinds := [], alts := [], laidByText := true, laidKinds := [.data], laidTests := true, laidLooks := .later }
def SchedCoversCardSaid : Prop := Claim7.holds Tryz.pinned (.plain (OpenSpec.ofChange schedCoversSpec)) schedCoversCard

/-- THE SECOND FORM's CARD OF 'hollowtreelaw19.SchedMakes'. -/
def schedMakesUptoCard : Claim7 := { stood := { row := schedMakesUptoRow, standIns := [], harness := (true, "107eb85c0ac325d8f4b596bb9176bb1c10d7fa5c5b85889517ae36a36555625d"), looks := false }, kinds := [], alts := [], laidByText := true, laidKinds := [.data], laidTests := true, laidLooks := .later }
def SchedMakesUptoCardSaid : Prop := Claim7.holds Tryz.pinned (.plain (OpenSpec.upto schedMakesSpec)) schedMakesUptoCard

/-- THE SECOND FORM's CARD OF 'hollowtreelaw19.SchedReads'. -/
def schedReadsUptoCard : Claim7 := { stood := { row := schedReadsUptoRow, standIns := [], harness := (true, "107eb85c0ac325d8f4b596bb9176bb1c10d7fa5c5b85889517ae36a36555625d"), looks := false }, kinds := [], alts := [], laidByText := true, laidKinds := [.data], laidTests := true, laidLooks := .later }
def SchedReadsUptoCardSaid : Prop := Claim7.holds Tryz.pinned (.plain (OpenSpec.upto schedReadsSpec)) schedReadsUptoCard

/-- THE SECOND FORM's CARD OF 'hollowtreelaw19.SchedCovers'. -/
def schedCoversUptoCard : Claim7 := { stood := { row := schedCoversUptoRow, standIns := [], harness := (true, "107eb85c0ac325d8f4b596bb9176bb1c10d7fa5c5b85889517ae36a36555625d"), looks := false }, kinds := [], alts := [], laidByText := true, laidKinds := [.data], laidTests := true, laidLooks := .later }
def SchedCoversUptoCardSaid : Prop := Claim7.holds Tryz.pinned (.plain (OpenSpec.upto schedCoversSpec)) schedCoversUptoCard
end Rows
end Go.Proofs.YthahhglbeafkmaaGreatDoor
