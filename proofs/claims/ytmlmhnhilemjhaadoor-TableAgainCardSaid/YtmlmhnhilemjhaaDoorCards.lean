/-
  DERIVED. GIVEN WITH THE SEED: THE CARDS: each row of YtmlmhnhilemjhaaDoorRows.lean that lists a variable, with what it lists TIED to the program's text (the seventh form; the later family's looks); each row that meets fmt, with fmt's text TOLD by the authors' own Lean function (tested against real Go, not proved from fmt's source: count such statements apart). THE CARD IS WHAT COUNTS. Prove the row's statement (the work); the ties are given (YtmlmhnhilemjhaaDoorTie.lean); close each card by the builder's one call (the guide's Derived/Test/ToyasCard.lean, 'card_holds'). Laid BY PROGRAM, IN A SANDBOX (cutbox-door.mjs). By AI agents, Wed Nov 11 2026. No macro, syntax, notation, axiom, sorry.
-/
import Derived.Test.YtmlmhnhilemjhaaDoorRows
import GoSem.ClaimSeven
namespace Go.Proofs.YtmlmhnhilemjhaaDoor
namespace Rows

/-- THE TIED CARD OF 'sealchainlaw18.TableOnce'. -/
def tableOnceCard : Claim7 := { stood := { row := tableOnceRow, standIns := [], harness := (true, "02465531a2ffd3d780c98aa348bb16a12ac4a03ca28bce25095adcab7cbdd693"), looks := false }, kinds := [], alts := [], laidByText := true, laidKinds := [.data], laidTests := true, laidLooks := .later }
def TableOnceCardSaid : Prop := Claim7.holds Tryd.pinned (.plain (OpenSpec.ofChange tableOnceSpec)) tableOnceCard

/-- THE TIED CARD OF 'sealchainlaw18.TableNext'. -/
def tableNextCard : Claim7 := { stood := { row := tableNextRow, standIns := [], harness := (true, "02465531a2ffd3d780c98aa348bb16a12ac4a03ca28bce25095adcab7cbdd693"), looks := false }, kinds := [], alts := [], laidByText := true, laidKinds := [.data], laidTests := true, laidLooks := .later }
def TableNextCardSaid : Prop := Claim7.holds Tryd.pinned (.plain (OpenSpec.ofChange tableNextSpec)) tableNextCard

/-- THE TIED CARD OF 'sealchainlaw18.TableAgain'. -/
def tableAgainCard : Claim7 := { stood := { row := tableAgainRow, standIns := [], harness := (true, "02465531a2ffd3d780c98aa348bb16a12ac4a03ca28bce25095adcab7cbdd693"), looks := false }, kinds := [], alts := [], laidByText := true, laidKinds := [.data], laidTests := true, laidLooks := .later }
def TableAgainCardSaid : Prop := Claim7.holds Tryd.pinned (.plain (OpenSpec.ofChange tableAgainSpec)) tableAgainCard

/-- THE SECOND FORM's CARD OF 'sealchainlaw18.TableOnce'. -/
def tableOnceUptoCard : Claim7 := { stood := { row := tableOnceUptoRow, standIns := [], harness := (true, "02465531a2ffd3d780c98aa348bb16a12ac4a03ca28bce25095adcab7cbdd693"), looks := false }, kinds := [], alts := [], laidByText := true, laidKinds := [.data], laidTests := true, laidLooks := .later }
def TableOnceUptoCardSaid : Prop := Claim7.holds Tryd.pinned (.plain (OpenSpec.upto tableOnceSpec)) tableOnceUptoCard

/-- THE SECOND FORM's CARD OF 'sealchainlaw18.TableNext'. -/
def tableNextUptoCard : Claim7 := { stood := { row := tableNextUptoRow, standIns := [], harness := (true, "02465531a2ffd3d780c98aa348bb16a12ac4a03ca28bce25095adcab7cbdd693"), looks := false }, kinds := [], alts := [], laidByText := true, laidKinds := [.data], laidTests := true, laidLooks := .later }
def TableNextUptoCardSaid : Prop := Claim7.holds Tryd.pinned (.plain (OpenSpec.upto tableNextSpec)) tableNextUptoCard

/-- THE SECOND FORM's CARD OF 'sealchainlaw18.TableAgain'. -/
def tableAgainUptoCard : Claim7 := { stood := { row := tableAgainUptoRow, standIns := [], harness := (true, "02465531a2ffd3d780c98aa348bb16a12ac4a03ca28bce25095adcab7cbdd693"), looks := false }, kinds := [], alts := [], laidByText := true, laidKinds := [.data], laidTests := true, laidLooks := .later }
def TableAgainUptoCardSaid : Prop := Claim7.holds Tryd.pinned (.plain (OpenSpec.upto tableAgainSpec)) tableAgainUptoCard
end Rows
end Go.Proofs.YtmlmhnhilemjhaaDoor
