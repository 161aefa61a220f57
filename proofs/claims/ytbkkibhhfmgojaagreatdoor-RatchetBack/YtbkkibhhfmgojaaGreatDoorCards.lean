/-
  DERIVED. GIVEN WITH THE SEED: THE CARDS: each row of YtbkkibhhfmgojaaGreatDoorRows.lean that lists a variable, with what it lists TIED to the program's text (the seventh form; the later family's looks); each row that meets fmt, with fmt's text TOLD by the authors' own Lean function (tested against real Go, not proved from fmt's source: count such statements apart). THE CARD IS WHAT COUNTS. Prove the row's statement (the work); the ties are given (YtbkkibhhfmgojaaGreatDoorTie.lean); close each card by the builder's one call (the guide's Derived/Test/ToyasCard.lean, 'card_holds'). Laid BY PROGRAM, IN A SANDBOX (cutbox-door.mjs). By AI agents, Wed Nov 11 2026. No macro, syntax, notation, axiom, sorry.
-/
import Derived.Test.YtbkkibhhfmgojaaGreatDoorRows
import GoSem.ClaimSeven
namespace Go.Proofs.YtbkkibhhfmgojaaGreatDoor
namespace Rows

/-- THE TIED CARD OF 'hollowtreelaw17.RatchetStarts'. -/
def ratchetStartsCard : Claim7 := { stood := { row := ratchetStartsRow, standIns := [], harness := (true, "9a4f7c307562a7b8adb42cfcff8ba68b9aca49b462f035e4a043879c11ed3ad1"), looks := false }, kinds := [], alts := [], laidByText := true, laidKinds := [.data, .data], laidTests := true, laidLooks := .later }
def RatchetStartsCardSaid : Prop := Claim7.holds Tryz.pinned (.plain (OpenSpec.ofChange ratchetStartsSpec)) ratchetStartsCard

/-- THE TIED CARD OF 'hollowtreelaw17.RatchetSeals'. -/
def ratchetSealsCard : Claim7 := { stood := { row := ratchetSealsRow, standIns := [], harness := (true, "9a4f7c307562a7b8adb42cfcff8ba68b9aca49b462f035e4a043879c11ed3ad1"), looks := false }, kinds := [], alts := [], laidByText := true, laidKinds := [.data, .data], laidTests := true, laidLooks := .later }
def RatchetSealsCardSaid : Prop := Claim7.holds Tryz.pinned (.plain (OpenSpec.ofChange ratchetSealsSpec)) ratchetSealsCard

/-- THE TIED CARD OF 'hollowtreelaw17.RatchetOpens'. -/
def ratchetOpensCard : Claim7 := { stood := { row := ratchetOpensRow, standIns := [], harness := (true, "9a4f7c307562a7b8adb42cfcff8ba68b9aca49b462f035e4a043879c11ed3ad1"), looks := false }, kinds := [], alts := [], laidByText := true, laidKinds := [.data, .data], laidTests := true, laidLooks := .later }
def RatchetOpensCardSaid : Prop := Claim7.holds Tryz.pinned (.plain (OpenSpec.ofChange ratchetOpensSpec)) ratchetOpensCard

/-- THE TIED CARD OF 'hollowtreelaw17.RatchetBytes'. -/
def ratchetBytesCard : Claim7 := { stood := { row := ratchetBytesRow, standIns := [], harness := (true, "9a4f7c307562a7b8adb42cfcff8ba68b9aca49b462f035e4a043879c11ed3ad1"), looks := false }, kinds := [], alts := [], laidByText := true, laidKinds := [.data, .data], laidTests := true, laidLooks := .later }
def RatchetBytesCardSaid : Prop := Claim7.holds Tryz.pinned (.plain (OpenSpec.ofChange ratchetBytesSpec)) ratchetBytesCard

/-- THE TIED CARD OF 'hollowtreelaw17.RatchetTalks'. -/
def ratchetTalksCard : Claim7 := { stood := { row := ratchetTalksRow, standIns := [], harness := (true, "9a4f7c307562a7b8adb42cfcff8ba68b9aca49b462f035e4a043879c11ed3ad1"), looks := false }, kinds := [], alts := [], laidByText := true, laidKinds := [.data, .data], laidTests := true, laidLooks := .later }
def RatchetTalksCardSaid : Prop := Claim7.holds Tryz.pinned (.plain (OpenSpec.ofChange ratchetTalksSpec)) ratchetTalksCard

/-- THE TIED CARD OF 'hollowtreelaw17.RatchetBack'. -/
def ratchetBackCard : Claim7 := { stood := { row := ratchetBackRow, standIns := [], harness := (true, "9a4f7c307562a7b8adb42cfcff8ba68b9aca49b462f035e4a043879c11ed3ad1"), looks := false }, kinds := [], alts := [], laidByText := true, laidKinds := [.data, .data], laidTests := true, laidLooks := .later }
def RatchetBackCardSaid : Prop := Claim7.holds Tryz.pinned (.plain (OpenSpec.ofChange ratchetBackSpec)) ratchetBackCard

/-- THE SECOND FORM's CARD OF 'hollowtreelaw17.RatchetStarts'. -/
def ratchetStartsUptoCard : Claim7 := { stood := { row := ratchetStartsUptoRow, standIns := [], harness := (true, "9a4f7c307562a7b8adb42cfcff8ba68b9aca49b462f035e4a043879c11ed3ad1"), looks := false }, kinds := [], alts := [], laidByText := true, laidKinds := [.data, .data], laidTests := true, laidLooks := .later }
def RatchetStartsUptoCardSaid : Prop := Claim7.holds Tryz.pinned (.plain (OpenSpec.upto ratchetStartsSpec)) ratchetStartsUptoCard

/-- THE SECOND FORM's CARD OF 'hollowtreelaw17.RatchetSeals'. -/
def ratchetSealsUptoCard : Claim7 := { stood := { row := ratchetSealsUptoRow, standIns := [], harness := (true, "9a4f7c307562a7b8adb42cfcff8ba68b9aca49b462f035e4a043879c11ed3ad1"), looks := false }, kinds := [], alts := [], laidByText := true, laidKinds := [.data, .data], laidTests := true, laidLooks := .later }
def RatchetSealsUptoCardSaid : Prop := Claim7.holds Tryz.pinned (.plain (OpenSpec.upto ratchetSealsSpec)) ratchetSealsUptoCard

/-- THE SECOND FORM's CARD OF 'hollowtreelaw17.RatchetOpens'. -/
def ratchetOpensUptoCard : Claim7 := { stood := { row := ratchetOpensUptoRow, standIns := [], harness := (true, "9a4f7c307562a7b8adb42cfcff8ba68b9aca49b462f035e4a043879c11ed3ad1"), looks := false }, kinds := [], alts := [], laidByText := true, laidKinds := [.data, .data], laidTests := true, laidLooks := .later }
def RatchetOpensUptoCardSaid : Prop := Claim7.holds Tryz.pinned (.plain (OpenSpec.upto ratchetOpensSpec)) ratchetOpensUptoCard

/-- THE SECOND FORM's CARD OF 'hollowtreelaw17.RatchetBytes'. -/
def ratchetBytesUptoCard : Claim7 := { stood := { row := ratchetBytesUptoRow, standIns := [], harness := (true, "9a4f7c307562a7b8adb42cfcff8ba68b9aca49b462f035e4a043879c11ed3ad1"), looks := false }, kinds := [], alts := [], laidByText := true, laidKinds := [.data, .data], laidTests := true, laidLooks := .later }
def RatchetBytesUptoCardSaid : Prop := Claim7.holds Tryz.pinned (.plain (OpenSpec.upto ratchetBytesSpec)) ratchetBytesUptoCard

/-- THE SECOND FORM's CARD OF 'hollowtreelaw17.RatchetTalks'. -/
def ratchetTalksUptoCard : Claim7 := { stood := { row := ratchetTalksUptoRow, standIns := [], harness := (true, "9a4f7c307562a7b8adb42cfcff8ba68b9aca49b462f035e4a043879c11ed3ad1"), looks := false }, kinds := [], alts := [], laidByText := true, laidKinds := [.data, .data], laidTests := true, laidLooks := .later }
def RatchetTalksUptoCardSaid : Prop := Claim7.holds Tryz.pinned (.plain (OpenSpec.upto ratchetTalksSpec)) ratchetTalksUptoCard

/-- THE SECOND FORM's CARD OF 'hollowtreelaw17.RatchetBack'. -/
def ratchetBackUptoCard : Claim7 := { stood := { row := ratchetBackUptoRow, standIns := [], harness := (true, "9a4f7c307562a7b8adb42cfcff8ba68b9aca49b462f035e4a043879c11ed3ad1"), looks := false }, kinds := [], alts := [], laidByText := true, laidKinds := [.data, .data], laidTests := true, laidLooks := .later }
def RatchetBackUptoCardSaid : Prop := Claim7.holds Tryz.pinned (.plain (OpenSpec.upto ratchetBackSpec)) ratchetBackUptoCard
end Rows
end Go.Proofs.YtbkkibhhfmgojaaGreatDoor
