/-
  DERIVED. GIVEN WITH THE SEED: THE CARDS: each row of YthnmebhljkccnaaDoorRows.lean that lists a variable, with what it lists TIED to the program's text (the seventh form; the later family's looks); each row that meets fmt, with fmt's text TOLD by the authors' own Lean function (tested against real Go, not proved from fmt's source: count such statements apart). THE CARD IS WHAT COUNTS. Prove the row's statement (the work); the ties are given (YthnmebhljkccnaaDoorTie.lean); close each card by the builder's one call (the guide's Derived/Test/ToyasCard.lean, 'card_holds'). Laid BY PROGRAM, IN A SANDBOX (cutbox-door.mjs). By AI agents, Wed Nov 11 2026. No macro, syntax, notation, axiom, sorry.
-/
import Derived.Test.YthnmebhljkccnaaDoorRows
import GoSem.ClaimSeven
namespace Go.Proofs.YthnmebhljkccnaaDoor
namespace Rows

/-- THE TIED CARD OF 'hollowtreelaw05.KdfCodes'. -/
def kdfCodesCard : Claim7 := { stood := { row := kdfCodesRow, standIns := [], harness := (true, "365573531b3483e32e7fbbd691416894afe0c4725ea63be1a57153375065e963"), looks := false }, kinds := [], alts := [], laidByText := true, laidKinds := [.data], laidTests := true, laidLooks := .later }
def KdfCodesCardSaid : Prop := Claim7.holds Tryd.pinned (.plain (OpenSpec.ofChange kdfCodesSpec)) kdfCodesCard

/-- THE TIED CARD OF 'hollowtreelaw05.KdfSpreads'. -/
def kdfSpreadsCard : Claim7 := { stood := { row := kdfSpreadsRow, standIns := [], harness := (true, "365573531b3483e32e7fbbd691416894afe0c4725ea63be1a57153375065e963"), looks := false }, kinds := [], alts := [], laidByText := true, laidKinds := [.data], laidTests := true, laidLooks := .later }
def KdfSpreadsCardSaid : Prop := Claim7.holds Tryd.pinned (.plain (OpenSpec.ofChange kdfSpreadsSpec)) kdfSpreadsCard

/-- THE TIED CARD OF 'hollowtreelaw05.KdfLabels'. -/
def kdfLabelsCard : Claim7 := { stood := { row := kdfLabelsRow, standIns := [], harness := (true, "365573531b3483e32e7fbbd691416894afe0c4725ea63be1a57153375065e963"), looks := false }, kinds := [], alts := [], laidByText := true, laidKinds := [.data], laidTests := true, laidLooks := .later }
def KdfLabelsCardSaid : Prop := Claim7.holds Tryd.pinned (.plain (OpenSpec.ofChange kdfLabelsSpec)) kdfLabelsCard

/-- THE TIED CARD OF 'hollowtreelaw05.KdfParts'. -/
def kdfPartsCard : Claim7 := { stood := { row := kdfPartsRow, standIns := [], harness := (true, "365573531b3483e32e7fbbd691416894afe0c4725ea63be1a57153375065e963"), looks := false }, kinds := [], alts := [], laidByText := true, laidKinds := [.data], laidTests := true, laidLooks := .later }
def KdfPartsCardSaid : Prop := Claim7.holds Tryd.pinned (.plain (OpenSpec.ofChange kdfPartsSpec)) kdfPartsCard

/-- THE TIED CARD OF 'hollowtreelaw05.KdfFewer'. -/
def kdfFewerCard : Claim7 := { stood := { row := kdfFewerRow, standIns := [], harness := (true, "365573531b3483e32e7fbbd691416894afe0c4725ea63be1a57153375065e963"), looks := false }, kinds := [], alts := [], laidByText := true, laidKinds := [.data], laidTests := true, laidLooks := .later }
def KdfFewerCardSaid : Prop := Claim7.holds Tryd.pinned (.plain (OpenSpec.ofChange kdfFewerSpec)) kdfFewerCard

/-- THE TIED CARD OF 'hollowtreelaw05.KdfApart'. -/
def kdfApartCard : Claim7 := { stood := { row := kdfApartRow, standIns := [], harness := (true, "365573531b3483e32e7fbbd691416894afe0c4725ea63be1a57153375065e963"), looks := false }, kinds := [], alts := [], laidByText := true, laidKinds := [.data], laidTests := true, laidLooks := .later }
def KdfApartCardSaid : Prop := Claim7.holds Tryd.pinned (.plain (OpenSpec.ofChange kdfApartSpec)) kdfApartCard

/-- THE SECOND FORM's CARD OF 'hollowtreelaw05.KdfCodes'. -/
def kdfCodesUptoCard : Claim7 := { stood := { row := kdfCodesUptoRow, standIns := [], harness := (true, "365573531b3483e32e7fbbd691416894afe0c4725ea63be1a57153375065e963"), looks := false }, kinds := [], alts := [], laidByText := true, laidKinds := [.data], laidTests := true, laidLooks := .later }
def KdfCodesUptoCardSaid : Prop := Claim7.holds Tryd.pinned (.plain (OpenSpec.upto kdfCodesSpec)) kdfCodesUptoCard

/-- THE SECOND FORM's CARD OF 'hollowtreelaw05.KdfSpreads'. -/
def kdfSpreadsUptoCard : Claim7 := { stood := { row := kdfSpreadsUptoRow, standIns := [], harness := (true, "365573531b3483e32e7fbbd691416894afe0c4725ea63be1a57153375065e963"), looks := false }, kinds := [], alts := [], laidByText := true, laidKinds := [.data], laidTests := true, laidLooks := .later }
def KdfSpreadsUptoCardSaid : Prop := Claim7.holds Tryd.pinned (.plain (OpenSpec.upto kdfSpreadsSpec)) kdfSpreadsUptoCard

/-- THE SECOND FORM's CARD OF 'hollowtreelaw05.KdfLabels'. -/
def kdfLabelsUptoCard : Claim7 := { stood := { row := kdfLabelsUptoRow, standIns := [], harness := (true, "365573531b3483e32e7fbbd691416894afe0c4725ea63be1a57153375065e963"), looks := false }, kinds := [], alts := [], laidByText := true, laidKinds := [.data], laidTests := true, laidLooks := .later }
def KdfLabelsUptoCardSaid : Prop := Claim7.holds Tryd.pinned (.plain (OpenSpec.upto kdfLabelsSpec)) kdfLabelsUptoCard

/-- THE SECOND FORM's CARD OF 'hollowtreelaw05.KdfParts'. -/
def kdfPartsUptoCard : Claim7 := { stood := { row := kdfPartsUptoRow, standIns := [], harness := (true, "365573531b3483e32e7fbbd691416894afe0c4725ea63be1a57153375065e963"), looks := false }, kinds := [], alts := [], laidByText := true, laidKinds := [.data], laidTests := true, laidLooks := .later }
def KdfPartsUptoCardSaid : Prop := Claim7.holds Tryd.pinned (.plain (OpenSpec.upto kdfPartsSpec)) kdfPartsUptoCard

/-- THE SECOND FORM's CARD OF 'hollowtreelaw05.KdfFewer'. -/
def kdfFewerUptoCard : Claim7 := { stood := { row := kdfFewerUptoRow, standIns := [], harness := (true, "365573531b3483e32e7fbbd691416894afe0c4725ea63be1a57153375065e963"), looks := false }, kinds := [], alts := [], laidByText := true, laidKinds := [.data], laidTests := true, laidLooks := .later }
def KdfFewerUptoCardSaid : Prop := Claim7.holds Tryd.pinned (.plain (OpenSpec.upto kdfFewerSpec)) kdfFewerUptoCard

/-- THE SECOND FORM's CARD OF 'hollowtreelaw05.KdfApart'. -/
def kdfApartUptoCard : Claim7 := { stood := { row := kdfApartUptoRow, standIns := [], harness := (true, "365573531b3483e32e7fbbd691416894afe0c4725ea63be1a57153375065e963"), looks := false }, kinds := [], alts := [], laidByText := true, laidKinds := [.data], laidTests := true, laidLooks := .later }
def KdfApartUptoCardSaid : Prop := Claim7.holds Tryd.pinned (.plain (OpenSpec.upto kdfApartSpec)) kdfApartUptoCard
end Rows
end Go.Proofs.YthnmebhljkccnaaDoor
