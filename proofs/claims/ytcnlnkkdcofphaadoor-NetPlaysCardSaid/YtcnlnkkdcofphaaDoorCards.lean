/-
  DERIVED. GIVEN WITH THE SEED: THE CARDS: each row of YtcnlnkkdcofphaaDoorRows.lean that lists a variable, with what it lists TIED to the program's text (the seventh form; the later family's looks); each row that meets fmt, with fmt's text TOLD by the authors' own Lean function (tested against real Go, not proved from fmt's source: count such statements apart). THE CARD IS WHAT COUNTS. Prove the row's statement (the work); the ties are given (YtcnlnkkdcofphaaDoorTie.lean); close each card by the builder's one call (the guide's Derived/Test/ToyasCard.lean, 'card_holds'). Laid BY PROGRAM, IN A SANDBOX (cutbox-door.mjs). By AI agents, Wed Nov 11 2026. No macro, syntax, notation, axiom, sorry.
-/
import Derived.Test.YtcnlnkkdcofphaaDoorRows
import GoSem.ClaimSeven
namespace Go.Proofs.YtcnlnkkdcofphaaDoor
namespace Rows

/-- THE TIED CARD OF 'sealchainlaw12.NetPlays'. -/
def netPlaysCard : Claim7 := { stood := { row := netPlaysRow, standIns := [], harness := (true, "d13070a54dc13f1ed21457f7dc74afd751f888c04127b1737302162a377b214b"), looks := false }, kinds := [], alts := [], laidByText := true, laidKinds := [.data], laidTests := true, laidLooks := .later }
def NetPlaysCardSaid : Prop := Claim7.holds Tryd.pinned (.plain (OpenSpec.ofChange netPlaysSpec)) netPlaysCard

/-- THE TIED CARD OF 'sealchainlaw12.NetBoxes'. -/
def netBoxesCard : Claim7 := { stood := { row := netBoxesRow, standIns := [], harness := (true, "d13070a54dc13f1ed21457f7dc74afd751f888c04127b1737302162a377b214b"), looks := false }, kinds := [], alts := [], laidByText := true, laidKinds := [.data], laidTests := true, laidLooks := .later }
def NetBoxesCardSaid : Prop := Claim7.holds Tryd.pinned (.plain (OpenSpec.ofChange netBoxesSpec)) netBoxesCard

/-- THE TIED CARD OF 'sealchainlaw12.NetOrder'. -/
def netOrderCard : Claim7 := { stood := { row := netOrderRow, standIns := [], harness := (true, "d13070a54dc13f1ed21457f7dc74afd751f888c04127b1737302162a377b214b"), looks := false }, kinds := [], alts := [], laidByText := true, laidKinds := [.data], laidTests := true, laidLooks := .later }
def NetOrderCardSaid : Prop := Claim7.holds Tryd.pinned (.plain (OpenSpec.ofChange netOrderSpec)) netOrderCard

/-- THE TIED CARD OF 'sealchainlaw12.NetKeeps'. -/
def netKeepsCard : Claim7 := { stood := { row := netKeepsRow, standIns := [], harness := (true, "d13070a54dc13f1ed21457f7dc74afd751f888c04127b1737302162a377b214b"), looks := false }, kinds := [], alts := [], laidByText := true, laidKinds := [.data], laidTests := true, laidLooks := .later }
def NetKeepsCardSaid : Prop := Claim7.holds Tryd.pinned (.plain (OpenSpec.ofChange netKeepsSpec)) netKeepsCard

/-- THE TIED CARD OF 'sealchainlaw12.NetTo'. -/
def netToCard : Claim7 := { stood := { row := netToRow, standIns := [], harness := (true, "d13070a54dc13f1ed21457f7dc74afd751f888c04127b1737302162a377b214b"), looks := false }, kinds := [], alts := [], laidByText := true, laidKinds := [.data], laidTests := true, laidLooks := .later }
def NetToCardSaid : Prop := Claim7.holds Tryd.pinned (.plain (OpenSpec.ofChange netToSpec)) netToCard

/-- THE SECOND FORM's CARD OF 'sealchainlaw12.NetPlays'. -/
def netPlaysUptoCard : Claim7 := { stood := { row := netPlaysUptoRow, standIns := [], harness := (true, "d13070a54dc13f1ed21457f7dc74afd751f888c04127b1737302162a377b214b"), looks := false }, kinds := [], alts := [], laidByText := true, laidKinds := [.data], laidTests := true, laidLooks := .later }
def NetPlaysUptoCardSaid : Prop := Claim7.holds Tryd.pinned (.plain (OpenSpec.upto netPlaysSpec)) netPlaysUptoCard

/-- THE SECOND FORM's CARD OF 'sealchainlaw12.NetBoxes'. -/
def netBoxesUptoCard : Claim7 := { stood := { row := netBoxesUptoRow, standIns := [], harness := (true, "d13070a54dc13f1ed21457f7dc74afd751f888c04127b1737302162a377b214b"), looks := false }, kinds := [], alts := [], laidByText := true, laidKinds := [.data], laidTests := true, laidLooks := .later }
def NetBoxesUptoCardSaid : Prop := Claim7.holds Tryd.pinned (.plain (OpenSpec.upto netBoxesSpec)) netBoxesUptoCard

/-- THE SECOND FORM's CARD OF 'sealchainlaw12.NetOrder'. -/
def netOrderUptoCard : Claim7 := { stood := { row := netOrderUptoRow, standIns := [], harness := (true, "d13070a54dc13f1ed21457f7dc74afd751f888c04127b1737302162a377b214b"), looks := false }, kinds := [], alts := [], laidByText := true, laidKinds := [.data], laidTests := true, laidLooks := .later }
def NetOrderUptoCardSaid : Prop := Claim7.holds Tryd.pinned (.plain (OpenSpec.upto netOrderSpec)) netOrderUptoCard

/-- THE SECOND FORM's CARD OF 'sealchainlaw12.NetKeeps'. -/
def netKeepsUptoCard : Claim7 := { stood := { row := netKeepsUptoRow, standIns := [], harness := (true, "d13070a54dc13f1ed21457f7dc74afd751f888c04127b1737302162a377b214b"), looks := false }, kinds := [], alts := [], laidByText := true, laidKinds := [.data], laidTests := true, laidLooks := .later }
def NetKeepsUptoCardSaid : Prop := Claim7.holds Tryd.pinned (.plain (OpenSpec.upto netKeepsSpec)) netKeepsUptoCard

/-- THE SECOND FORM's CARD OF 'sealchainlaw12.NetTo'. -/
def netToUptoCard : Claim7 := { stood := { row := netToUptoRow, standIns := [], harness := (true, "d13070a54dc13f1ed21457f7dc74afd751f888c04127b1737302162a377b214b"), looks := false }, kinds := [], alts := [], laidByText := true, laidKinds := [.data], laidTests := true, laidLooks := .later }
def NetToUptoCardSaid : Prop := Claim7.holds Tryd.pinned (.plain (OpenSpec.upto netToSpec)) netToUptoCard
end Rows
end Go.Proofs.YtcnlnkkdcofphaaDoor
