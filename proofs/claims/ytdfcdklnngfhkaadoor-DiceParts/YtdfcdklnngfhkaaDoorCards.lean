/-
  DERIVED. GIVEN WITH THE SEED: THE CARDS: each row of YtdfcdklnngfhkaaDoorRows.lean that lists a variable, with what it lists TIED to the program's text (the seventh form; the later family's looks); each row that meets fmt, with fmt's text TOLD by the authors' own Lean function (tested against real Go, not proved from fmt's source: count such statements apart). THE CARD IS WHAT COUNTS. Prove the row's statement (the work); the ties are given (YtdfcdklnngfhkaaDoorTie.lean); close each card by the builder's one call (the guide's Derived/Test/ToyasCard.lean, 'card_holds'). Laid BY PROGRAM, IN A SANDBOX (cutbox-door.mjs). By AI agents, Wed Nov 11 2026. No macro, syntax, notation, axiom, sorry.
-/
import Derived.Test.YtdfcdklnngfhkaaDoorRows
import GoSem.ClaimSeven
namespace Go.Proofs.YtdfcdklnngfhkaaDoor
namespace Rows

/-- THE TIED CARD OF 'hollowtreelaw09.DiceDraws'. -/
def diceDrawsCard : Claim7 := { stood := { row := diceDrawsRow, standIns := [], harness := (true, "3d81b1aa21780ccd87b0900a83aa74e1979214f5ab240b28919f022cb7328940"), looks := false }, kinds := [], alts := [], laidByText := true, laidKinds := [.data], laidTests := true, laidLooks := .later }
def DiceDrawsCardSaid : Prop := Claim7.holds Tryd.pinned (.plain (OpenSpec.ofChange diceDrawsSpec)) diceDrawsCard

/-- THE TIED CARD OF 'hollowtreelaw09.DiceForks'. -/
def diceForksCard : Claim7 := { stood := { row := diceForksRow, standIns := [], harness := (true, "3d81b1aa21780ccd87b0900a83aa74e1979214f5ab240b28919f022cb7328940"), looks := false }, kinds := [], alts := [], laidByText := true, laidKinds := [.data], laidTests := true, laidLooks := .later }
def DiceForksCardSaid : Prop := Claim7.holds Tryd.pinned (.plain (OpenSpec.ofChange diceForksSpec)) diceForksCard

/-- THE TIED CARD OF 'hollowtreelaw09.DiceNone'. -/
def diceNoneCard : Claim7 := { stood := { row := diceNoneRow, standIns := [], harness := (true, "3d81b1aa21780ccd87b0900a83aa74e1979214f5ab240b28919f022cb7328940"), looks := false }, kinds := [], alts := [], laidByText := true, laidKinds := [.data], laidTests := true, laidLooks := .later }
def DiceNoneCardSaid : Prop := Claim7.holds Tryd.pinned (.plain (OpenSpec.ofChange diceNoneSpec)) diceNoneCard

/-- THE TIED CARD OF 'hollowtreelaw09.DiceParts'. -/
def dicePartsCard : Claim7 := { stood := { row := dicePartsRow, standIns := [], harness := (true, "3d81b1aa21780ccd87b0900a83aa74e1979214f5ab240b28919f022cb7328940"), looks := false }, kinds := [], alts := [], laidByText := true, laidKinds := [.data], laidTests := true, laidLooks := .later }
def DicePartsCardSaid : Prop := Claim7.holds Tryd.pinned (.plain (OpenSpec.ofChange dicePartsSpec)) dicePartsCard

/-- THE TIED CARD OF 'hollowtreelaw09.DiceOrders'. -/
def diceOrdersCard : Claim7 := { stood := { row := diceOrdersRow, standIns := [], harness := (true, "3d81b1aa21780ccd87b0900a83aa74e1979214f5ab240b28919f022cb7328940"), looks := false }, kinds := [], alts := [], laidByText := true, laidKinds := [.data], laidTests := true, laidLooks := .later }
def DiceOrdersCardSaid : Prop := Claim7.holds Tryd.pinned (.plain (OpenSpec.ofChange diceOrdersSpec)) diceOrdersCard

/-- THE TIED CARD OF 'hollowtreelaw09.DiceApart'. -/
def diceApartCard : Claim7 := { stood := { row := diceApartRow, standIns := [], harness := (true, "3d81b1aa21780ccd87b0900a83aa74e1979214f5ab240b28919f022cb7328940"), looks := false }, kinds := [], alts := [], laidByText := true, laidKinds := [.data], laidTests := true, laidLooks := .later }
def DiceApartCardSaid : Prop := Claim7.holds Tryd.pinned (.plain (OpenSpec.ofChange diceApartSpec)) diceApartCard

/-- THE SECOND FORM's CARD OF 'hollowtreelaw09.DiceDraws'. -/
def diceDrawsUptoCard : Claim7 := { stood := { row := diceDrawsUptoRow, standIns := [], harness := (true, "3d81b1aa21780ccd87b0900a83aa74e1979214f5ab240b28919f022cb7328940"), looks := false }, kinds := [], alts := [], laidByText := true, laidKinds := [.data], laidTests := true, laidLooks := .later }
def DiceDrawsUptoCardSaid : Prop := Claim7.holds Tryd.pinned (.plain (OpenSpec.upto diceDrawsSpec)) diceDrawsUptoCard

/-- THE SECOND FORM's CARD OF 'hollowtreelaw09.DiceForks'. -/
def diceForksUptoCard : Claim7 := { stood := { row := diceForksUptoRow, standIns := [], harness := (true, "3d81b1aa21780ccd87b0900a83aa74e1979214f5ab240b28919f022cb7328940"), looks := false }, kinds := [], alts := [], laidByText := true, laidKinds := [.data], laidTests := true, laidLooks := .later }
def DiceForksUptoCardSaid : Prop := Claim7.holds Tryd.pinned (.plain (OpenSpec.upto diceForksSpec)) diceForksUptoCard

/-- THE SECOND FORM's CARD OF 'hollowtreelaw09.DiceNone'. -/
def diceNoneUptoCard : Claim7 := { stood := { row := diceNoneUptoRow, standIns := [], harness := (true, "3d81b1aa21780ccd87b0900a83aa74e1979214f5ab240b28919f022cb7328940"), looks := false }, kinds := [], alts := [], laidByText := true, laidKinds := [.data], laidTests := true, laidLooks := .later }
def DiceNoneUptoCardSaid : Prop := Claim7.holds Tryd.pinned (.plain (OpenSpec.upto diceNoneSpec)) diceNoneUptoCard

/-- THE SECOND FORM's CARD OF 'hollowtreelaw09.DiceParts'. -/
def dicePartsUptoCard : Claim7 := { stood := { row := dicePartsUptoRow, standIns := [], harness := (true, "3d81b1aa21780ccd87b0900a83aa74e1979214f5ab240b28919f022cb7328940"), looks := false }, kinds := [], alts := [], laidByText := true, laidKinds := [.data], laidTests := true, laidLooks := .later }
def DicePartsUptoCardSaid : Prop := Claim7.holds Tryd.pinned (.plain (OpenSpec.upto dicePartsSpec)) dicePartsUptoCard

/-- THE SECOND FORM's CARD OF 'hollowtreelaw09.DiceOrders'. -/
def diceOrdersUptoCard : Claim7 := { stood := { row := diceOrdersUptoRow, standIns := [], harness := (true, "3d81b1aa21780ccd87b0900a83aa74e1979214f5ab240b28919f022cb7328940"), looks := false }, kinds := [], alts := [], laidByText := true, laidKinds := [.data], laidTests := true, laidLooks := .later }
def DiceOrdersUptoCardSaid : Prop := Claim7.holds Tryd.pinned (.plain (OpenSpec.upto diceOrdersSpec)) diceOrdersUptoCard

/-- THE SECOND FORM's CARD OF 'hollowtreelaw09.DiceApart'. -/
def diceApartUptoCard : Claim7 := { stood := { row := diceApartUptoRow, standIns := [], harness := (true, "3d81b1aa21780ccd87b0900a83aa74e1979214f5ab240b28919f022cb7328940"), looks := false }, kinds := [], alts := [], laidByText := true, laidKinds := [.data], laidTests := true, laidLooks := .later }
def DiceApartUptoCardSaid : Prop := Claim7.holds Tryd.pinned (.plain (OpenSpec.upto diceApartSpec)) diceApartUptoCard
end Rows
end Go.Proofs.YtdfcdklnngfhkaaDoor
