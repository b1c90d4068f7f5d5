/-
  DERIVED. GIVEN WITH THE SEED: THE CARDS: each row of YtkpmlcgbffdloaaDoorRows.lean that lists a variable, with what it lists TIED to the program's text (the seventh form; the later family's looks); each row that meets fmt, with fmt's text TOLD by the authors' own Lean function (tested against real Go, not proved from fmt's source: count such statements apart). THE CARD IS WHAT COUNTS. Prove the row's statement (the work); the ties are given (YtkpmlcgbffdloaaDoorTie.lean); close each card by the builder's one call (the guide's Derived/Test/ToyasCard.lean, 'card_holds'). Laid BY PROGRAM, IN A SANDBOX (cutbox-door.mjs). By AI agents, Wed Nov 11 2026. No macro, syntax, notation, axiom, sorry.
-/
import Derived.Test.YtkpmlcgbffdloaaDoorRows
import GoSem.ClaimSeven
namespace Go.Proofs.YtkpmlcgbffdloaaDoor
namespace Rows

/-- THE TIED CARD OF 'sealchainlaw20.SessPlays'. -/
def sessPlaysCard : Claim7 := { stood := { row := sessPlaysRow, standIns := [], harness := (true, "71d2d6a1d94d80d0e777ff979239abf92d30ad37fb3ffaac1f20613aa02c8cdd"), looks := true }, kinds := [], alts := [], laidByText := true, laidKinds := [.data], laidTests := true, laidLooks := .later }
def SessPlaysCardSaid : Prop := Claim7.holds Tryd.pinned (.plain (OpenSpec.ofChange sessPlaysSpec)) sessPlaysCard

/-- THE TIED CARD OF 'sealchainlaw20.SessOnce'. -/
def sessOnceCard : Claim7 := { stood := { row := sessOnceRow, standIns := [], harness := (true, "71d2d6a1d94d80d0e777ff979239abf92d30ad37fb3ffaac1f20613aa02c8cdd"), looks := true }, kinds := [], alts := [], laidByText := true, laidKinds := [.data], laidTests := true, laidLooks := .later }
def SessOnceCardSaid : Prop := Claim7.holds Tryd.pinned (.plain (OpenSpec.ofChange sessOnceSpec)) sessOnceCard

/-- THE TIED CARD OF 'sealchainlaw20.SessConfs'. -/
def sessConfsCard : Claim7 := { stood := { row := sessConfsRow, standIns := [], harness := (true, "71d2d6a1d94d80d0e777ff979239abf92d30ad37fb3ffaac1f20613aa02c8cdd"), looks := true }, kinds := [], alts := [], laidByText := true, laidKinds := [.data], laidTests := true, laidLooks := .later }
def SessConfsCardSaid : Prop := Claim7.holds Tryd.pinned (.plain (OpenSpec.ofChange sessConfsSpec)) sessConfsCard

/-- THE TIED CARD OF 'sealchainlaw20.SessAgain'. -/
def sessAgainCard : Claim7 := { stood := { row := sessAgainRow, standIns := [], harness := (true, "71d2d6a1d94d80d0e777ff979239abf92d30ad37fb3ffaac1f20613aa02c8cdd"), looks := true }, kinds := [], alts := [], laidByText := true, laidKinds := [.data], laidTests := true, laidLooks := .later }
def SessAgainCardSaid : Prop := Claim7.holds Tryd.pinned (.plain (OpenSpec.ofChange sessAgainSpec)) sessAgainCard

/-- THE TIED CARD OF 'sealchainlaw20.SessStray'. -/
def sessStrayCard : Claim7 := { stood := { row := sessStrayRow, standIns := [], harness := (true, "71d2d6a1d94d80d0e777ff979239abf92d30ad37fb3ffaac1f20613aa02c8cdd"), looks := true }, kinds := [], alts := [], laidByText := true, laidKinds := [.data], laidTests := true, laidLooks := .later }
def SessStrayCardSaid : Prop := Claim7.holds Tryd.pinned (.plain (OpenSpec.ofChange sessStraySpec)) sessStrayCard

/-- THE TIED CARD OF 'sealchainlaw20.SessKnown'. -/
def sessKnownCard : Claim7 := { stood := { row := sessKnownRow, standIns := [], harness := (true, "71d2d6a1d94d80d0e777ff979239abf92d30ad37fb3ffaac1f20613aa02c8cdd"), looks := true }, kinds := [], alts := [], laidByText := true, laidKinds := [.data], laidTests := true, laidLooks := .later }
def SessKnownCardSaid : Prop := Claim7.holds Tryd.pinned (.plain (OpenSpec.ofChange sessKnownSpec)) sessKnownCard

/-- THE SECOND FORM's CARD OF 'sealchainlaw20.SessPlays'. -/
def sessPlaysUptoCard : Claim7 := { stood := { row := sessPlaysUptoRow, standIns := [], harness := (true, "71d2d6a1d94d80d0e777ff979239abf92d30ad37fb3ffaac1f20613aa02c8cdd"), looks := true }, kinds := [], alts := [], laidByText := true, laidKinds := [.data], laidTests := true, laidLooks := .later }
def SessPlaysUptoCardSaid : Prop := Claim7.holds Tryd.pinned (.plain (OpenSpec.upto sessPlaysSpec)) sessPlaysUptoCard

/-- THE SECOND FORM's CARD OF 'sealchainlaw20.SessOnce'. -/
def sessOnceUptoCard : Claim7 := { stood := { row := sessOnceUptoRow, standIns := [], harness := (true, "71d2d6a1d94d80d0e777ff979239abf92d30ad37fb3ffaac1f20613aa02c8cdd"), looks := true }, kinds := [], alts := [], laidByText := true, laidKinds := [.data], laidTests := true, laidLooks := .later }
def SessOnceUptoCardSaid : Prop := Claim7.holds Tryd.pinned (.plain (OpenSpec.upto sessOnceSpec)) sessOnceUptoCard

/-- THE SECOND FORM's CARD OF 'sealchainlaw20.SessConfs'. -/
def sessConfsUptoCard : Claim7 := { stood := { row := sessConfsUptoRow, standIns := [], harness := (true, "71d2d6a1d94d80d0e777ff979239abf92d30ad37fb3ffaac1f20613aa02c8cdd"), looks := true }, kinds := [], alts := [], laidByText := true, laidKinds := [.data], laidTests := true, laidLooks := .later }
def SessConfsUptoCardSaid : Prop := Claim7.holds Tryd.pinned (.plain (OpenSpec.upto sessConfsSpec)) sessConfsUptoCard

/-- THE SECOND FORM's CARD OF 'sealchainlaw20.SessAgain'. -/
def sessAgainUptoCard : Claim7 := { stood := { row := sessAgainUptoRow, standIns := [], harness := (true, "71d2d6a1d94d80d0e777ff979239abf92d30ad37fb3ffaac1f20613aa02c8cdd"), looks := true }, kinds := [], alts := [], laidByText := true, laidKinds := [.data], laidTests := true, laidLooks := .later }
def SessAgainUptoCardSaid : Prop := Claim7.holds Tryd.pinned (.plain (OpenSpec.upto sessAgainSpec)) sessAgainUptoCard

/-- THE SECOND FORM's CARD OF 'sealchainlaw20.SessStray'. -/
def sessStrayUptoCard : Claim7 := { stood := { row := sessStrayUptoRow, standIns := [], harness := (true, "71d2d6a1d94d80d0e777ff979239abf92d30ad37fb3ffaac1f20613aa02c8cdd"), looks := true }, kinds := [], alts := [], laidByText := true, laidKinds := [.data], laidTests := true, laidLooks := .later }
def SessStrayUptoCardSaid : Prop := Claim7.holds Tryd.pinned (.plain (OpenSpec.upto sessStraySpec)) sessStrayUptoCard

/-- THE SECOND FORM's CARD OF 'sealchainlaw20.SessKnown'. -/
def sessKnownUptoCard : Claim7 := { stood := { row := sessKnownUptoRow, standIns := [], harness := (true, "71d2d6a1d94d80d0e777ff979239abf92d30ad37fb3ffaac1f20613aa02c8cdd"), looks := true }, kinds := [], alts := [], laidByText := true, laidKinds := [.data], laidTests := true, laidLooks := .later }
def SessKnownUptoCardSaid : Prop := Claim7.holds Tryd.pinned (.plain (OpenSpec.upto sessKnownSpec)) sessKnownUptoCard
end Rows
end Go.Proofs.YtkpmlcgbffdloaaDoor
