/-
  DERIVED. GIVEN WITH THE SEED: THE CARDS: each row of YtomihjeiaignnaaDoorRows.lean that lists a variable, with what it lists TIED to the program's text (the seventh form; the later family's looks); each row that meets fmt, with fmt's text TOLD by the authors' own Lean function (tested against real Go, not proved from fmt's source: count such statements apart). THE CARD IS WHAT COUNTS. Prove the row's statement (the work); the ties are given (YtomihjeiaignnaaDoorTie.lean); close each card by the builder's one call (the guide's Derived/Test/ToyasCard.lean, 'card_holds'). Laid BY PROGRAM, IN A SANDBOX (cutbox-door.mjs). By AI agents, Wed Nov 11 2026. No macro, syntax, notation, axiom, sorry.
-/
import Derived.Test.YtomihjeiaignnaaDoorRows
import GoSem.ClaimSeven
namespace Go.Proofs.YtomihjeiaignnaaDoor
namespace Rows

/-- THE TIED CARD OF 'hollowtreelaw11.ExtentTakes'. -/
def extentTakesCard : Claim7 := { stood := { row := extentTakesRow, standIns := [], harness := (true, "057a1fb398c227b6153a2f21585dd820460cb70ae7844ab8a8019d9db2350c79"), looks := false }, kinds := [], alts := [], laidByText := true, laidKinds := [.data], laidTests := true, laidLooks := .later }
def ExtentTakesCardSaid : Prop := Claim7.holds Tryd.pinned (.plain (OpenSpec.ofChange extentTakesSpec)) extentTakesCard

/-- THE TIED CARD OF 'hollowtreelaw11.ExtentOpens'. -/
def extentOpensCard : Claim7 := { stood := { row := extentOpensRow, standIns := [], harness := (true, "057a1fb398c227b6153a2f21585dd820460cb70ae7844ab8a8019d9db2350c79"), looks := false }, kinds := [], alts := [], laidByText := true, laidKinds := [.data], laidTests := true, laidLooks := .later }
def ExtentOpensCardSaid : Prop := Claim7.holds Tryd.pinned (.plain (OpenSpec.ofChange extentOpensSpec)) extentOpensCard

/-- THE TIED CARD OF 'hollowtreelaw11.ExtentLogs'. -/
def extentLogsCard : Claim7 := { stood := { row := extentLogsRow, standIns := [], harness := (true, "057a1fb398c227b6153a2f21585dd820460cb70ae7844ab8a8019d9db2350c79"), looks := false }, kinds := [], alts := [], laidByText := true, laidKinds := [.data], laidTests := true, laidLooks := .later }
def ExtentLogsCardSaid : Prop := Claim7.holds Tryd.pinned (.plain (OpenSpec.ofChange extentLogsSpec)) extentLogsCard

/-- THE TIED CARD OF 'hollowtreelaw11.ExtentNone'. -/
def extentNoneCard : Claim7 := { stood := { row := extentNoneRow, standIns := [], harness := (true, "057a1fb398c227b6153a2f21585dd820460cb70ae7844ab8a8019d9db2350c79"), looks := false }, kinds := [], alts := [], laidByText := true, laidKinds := [.data], laidTests := true, laidLooks := .later }
def ExtentNoneCardSaid : Prop := Claim7.holds Tryd.pinned (.plain (OpenSpec.ofChange extentNoneSpec)) extentNoneCard

/-- THE TIED CARD OF 'hollowtreelaw11.ExtentCuts'. -/
def extentCutsCard : Claim7 := { stood := { row := extentCutsRow, standIns := [], harness := (true, "057a1fb398c227b6153a2f21585dd820460cb70ae7844ab8a8019d9db2350c79"), looks := false }, kinds := [], alts := [], laidByText := true, laidKinds := [.data], laidTests := true, laidLooks := .later }
def ExtentCutsCardSaid : Prop := Claim7.holds Tryd.pinned (.plain (OpenSpec.ofChange extentCutsSpec)) extentCutsCard

/-- THE TIED CARD OF 'hollowtreelaw11.ExtentApart'. -/
def extentApartCard : Claim7 := { stood := { row := extentApartRow, standIns := [], harness := (true, "057a1fb398c227b6153a2f21585dd820460cb70ae7844ab8a8019d9db2350c79"), looks := false }, kinds := [], alts := [], laidByText := true, laidKinds := [.data], laidTests := true, laidLooks := .later }
def ExtentApartCardSaid : Prop := Claim7.holds Tryd.pinned (.plain (OpenSpec.ofChange extentApartSpec)) extentApartCard

/-- THE SECOND FORM's CARD OF 'hollowtreelaw11.ExtentTakes'. -/
def extentTakesUptoCard : Claim7 := { stood := { row := extentTakesUptoRow, standIns := [], harness := (true, "057a1fb398c227b6153a2f21585dd820460cb70ae7844ab8a8019d9db2350c79"), looks := false }, kinds := [], alts := [], laidByText := true, laidKinds := [.data], laidTests := true, laidLooks := .later }
def ExtentTakesUptoCardSaid : Prop := Claim7.holds Tryd.pinned (.plain (OpenSpec.upto extentTakesSpec)) extentTakesUptoCard

/-- THE SECOND FORM's CARD OF 'hollowtreelaw11.ExtentOpens'. -/
def extentOpensUptoCard : Claim7 := { stood := { row := extentOpensUptoRow, standIns := [], harness := (true, "057a1fb398c227b6153a2f21585dd820460cb70ae7844ab8a8019d9db2350c79"), looks := false }, kinds := [], alts := [], laidByText := true, laidKinds := [.data], laidTests := true, laidLooks := .later }
def ExtentOpensUptoCardSaid : Prop := Claim7.holds Tryd.pinned (.plain (OpenSpec.upto extentOpensSpec)) extentOpensUptoCard

/-- THE SECOND FORM's CARD OF 'hollowtreelaw11.ExtentLogs'. -/
def extentLogsUptoCard : Claim7 := { stood := { row := extentLogsUptoRow, standIns := [], harness := (true, "057a1fb398c227b6153a2f21585dd820460cb70ae7844ab8a8019d9db2350c79"), looks := false }, kinds := [], alts := [], laidByText := true, laidKinds := [.data], laidTests := true, laidLooks := .later }
def ExtentLogsUptoCardSaid : Prop := Claim7.holds Tryd.pinned (.plain (OpenSpec.upto extentLogsSpec)) extentLogsUptoCard

/-- THE SECOND FORM's CARD OF 'hollowtreelaw11.ExtentNone'. -/
def extentNoneUptoCard : Claim7 := { stood := { row := extentNoneUptoRow, standIns := [], harness := (true, "057a1fb398c227b6153a2f21585dd820460cb70ae7844ab8a8019d9db2350c79"), looks := false }, kinds := [], alts := [], laidByText := true, laidKinds := [.data], laidTests := true, laidLooks := .later }
def ExtentNoneUptoCardSaid : Prop := Claim7.holds Tryd.pinned (.plain (OpenSpec.upto extentNoneSpec)) extentNoneUptoCard

/-- THE SECOND FORM's CARD OF 'hollowtreelaw11.ExtentCuts'. -/
def extentCutsUptoCard : Claim7 := { stood := { row := extentCutsUptoRow, standIns := [], harness := (true, "057a1fb398c227b6153a2f21585dd820460cb70ae7844ab8a8019d9db2350c79"), looks := false }, kinds := [], alts := [], laidByText := true, laidKinds := [.data], laidTests := true, laidLooks := .later }
def ExtentCutsUptoCardSaid : Prop := Claim7.holds Tryd.pinned (.plain (OpenSpec.upto extentCutsSpec)) extentCutsUptoCard

/-- THE SECOND FORM's CARD OF 'hollowtreelaw11.ExtentApart'. -/
def extentApartUptoCard : Claim7 := { stood := { row := extentApartUptoRow, standIns := [], harness := (true, "057a1fb398c227b6153a2f21585dd820460cb70ae7844ab8a8019d9db2350c79"), looks := false }, kinds := [], alts := [], laidByText := true, laidKinds := [.data], laidTests := true, laidLooks := .later }
def ExtentApartUptoCardSaid : Prop := Claim7.holds Tryd.pinned (.plain (OpenSpec.upto extentApartSpec)) extentApartUptoCard
end Rows
end Go.Proofs.YtomihjeiaignnaaDoor
