/-
  DERIVED. GIVEN WITH THE SEED: THE CARDS: each row of YtebgmneffpeahaaDoorRows.lean that lists a variable, with what it lists TIED to the program's text (the seventh form; the later family's looks); each row that meets fmt, with fmt's text TOLD by the authors' own Lean function (tested against real Go, not proved from fmt's source: count such statements apart). THE CARD IS WHAT COUNTS. Prove the row's statement (the work); the ties are given (YtebgmneffpeahaaDoorTie.lean); close each card by the builder's one call (the guide's Derived/Test/ToyasCard.lean, 'card_holds'). Laid BY PROGRAM, IN A SANDBOX (cutbox-door.mjs). By AI agents, Wed Nov 11 2026. No macro, syntax, notation, axiom, sorry.
-/
import Derived.Test.YtebgmneffpeahaaDoorRows
import GoSem.ClaimSeven
namespace Go.Proofs.YtebgmneffpeahaaDoor
namespace Rows

/-- THE TIED CARD OF 'hollowtreelaw03.CurveKeys'. -/
def curveKeysCard : Claim7 := { stood := { row := curveKeysRow, standIns := [], harness := (true, "4c3261d36a19338626363aa7cfa04a642e548af365d40e1c4acd30b6426138a2"), looks := false }, kinds := [], alts := [], laidByText := true, laidKinds := [.data], laidTests := true, laidLooks := .later }
def CurveKeysCardSaid : Prop := Claim7.holds Tryd.pinned (.plain (OpenSpec.ofChange curveKeysSpec)) curveKeysCard

/-- THE TIED CARD OF 'hollowtreelaw03.CurveShares'. -/
def curveSharesCard : Claim7 := { stood := { row := curveSharesRow, standIns := [], harness := (true, "4c3261d36a19338626363aa7cfa04a642e548af365d40e1c4acd30b6426138a2"), looks := false }, kinds := [], alts := [], laidByText := true, laidKinds := [.data], laidTests := true, laidLooks := .later }
def CurveSharesCardSaid : Prop := Claim7.holds Tryd.pinned (.plain (OpenSpec.ofChange curveSharesSpec)) curveSharesCard

/-- THE SECOND FORM's CARD OF 'hollowtreelaw03.CurveKeys'. -/
def curveKeysUptoCard : Claim7 := { stood := { row := curveKeysUptoRow, standIns := [], harness := (true, "4c3261d36a19338626363aa7cfa04a642e548af365d40e1c4acd30b6426138a2"), looks := false }, kinds := [], alts := [], laidByText := true, laidKinds := [.data], laidTests := true, laidLooks := .later }
def CurveKeysUptoCardSaid : Prop := Claim7.holds Tryd.pinned (.plain (OpenSpec.upto curveKeysSpec)) curveKeysUptoCard

/-- THE SECOND FORM's CARD OF 'hollowtreelaw03.CurveShares'. -/
def curveSharesUptoCard : Claim7 := { stood := { row := curveSharesUptoRow, standIns := [], harness := (true, "4c3261d36a19338626363aa7cfa04a642e548af365d40e1c4acd30b6426138a2"), looks := false }, kinds := [], alts := [], laidByText := true, laidKinds := [.data], laidTests := true, laidLooks := .later }
def CurveSharesUptoCardSaid : Prop := Claim7.holds Tryd.pinned (.plain (OpenSpec.upto curveSharesSpec)) curveSharesUptoCard
end Rows
end Go.Proofs.YtebgmneffpeahaaDoor
