/-
  NARROWER THAN 'FOR EVERY INPUT', by the rows' own cells (each row's printed sentence says how): SessPlays: laid · SessOnce: laid · SessConfs: laid · SessAgain: laid · SessStray: laid · SessKnown: laid.
  DERIVED. THE GIVEN ROWS OF THIS SEAT. 6 by the template 'for every input the law returns true; each argument reads behind the call as it read before'; 0 by the template 'total and deterministic' (their statements: YtkpmlcgbffdloaaDoorTotals.lean).
  GIVEN WITH THE SEED: the statements are not yours to turn. If you find one false, say at which input.
  Laid BY PROGRAM, IN A SANDBOX (cutbox-rows.mjs): the forced cells as the released guide's own fill.sh prints them over the translation 123eca5b48128761… (all of the seat's roots in one cut). By AI agents, Wed Nov 11 2026. No macro, syntax, notation, axiom, sorry.
-/
import Derived.Test.YtkpmlcgbffdloaaDoorChecked
import GoSem.Claim
import GoSem.ClaimJoined
import GoSem.ClaimMapViews
import Derived.JoinedTies
import Derived.KernelRfl
namespace Go.Proofs.YtkpmlcgbffdloaaDoor
/- THE CELL 'sum', in the pinned program and in every row, IS THE sha256 OF THE DUMP (.gsa) THAT YtkpmlcgbffdloaaDoorProg.lean LOADS. Nothing in Lean hashes anything: it is a label: what it is worth is what the hold of that sum in a sandbox is worth. -/
noncomputable def Tryd.pinned : Pinned := { name := "ytkpmlcgbffdloaadoor", sum := "123eca5b48128761e93c5449ea8a2290fc23735c4fa0cb8b718dd8b180ea8772", checked := Tryd.checked }
namespace Rows
def none {H : Type} : Left H := { results := [], args := [] }

/- WHAT THE LISTED PACKAGE-LEVEL VARIABLES READ AS WHEN THE CALL BEGINS. Each datum BY PROGRAM (the guide's laid-datum.mjs) off the statement by which the dump's own 'gosem.cut.vars' lays the variable. In a bare row this is a premise. The card (YtkpmlcgbffdloaaDoorCards.lean) ties it to the program's text. -/
def laid_sealchain_seal_sizes {H : Type} : DataW H := .agg [.lit (.int .i64 45), .lit (.int .i64 93), .lit (.int .i64 285)]

/-- 'sealchainlaw20.SessPlays': WHATEVER THE INPUT: true; the input reads as it did. -/
def sessPlaysSpec : ChangeSpec := { name := "sessPlays", fn := fun _ => fun
  | [d1, d2] => { results := [.lit (.bool true)], args := [d1, d2] }
  | _ => none }
def sessPlaysRow : OpenClaim := { program := "ytkpmlcgbffdloaadoor", sum := "123eca5b48128761e93c5449ea8a2290fc23735c4fa0cb8b718dd8b180ea8772", func := "sealchain/sealchainlaw20.SessPlays", spec := "sessPlays", named := ["sealchain/seal.sizes"], apart := false, laid := [("sealchain/seal.sizes", laid_sealchain_seal_sizes)] }
def SessPlaysSaid : Prop := sessPlaysRow.holds Tryd.pinned (OpenSpec.ofChange sessPlaysSpec)

/-- ITS FALSE NEIGHBOUR: 'it returns false'. Refute it at one input. -/
def sessPlaysWrong : ChangeSpec := { name := "sessPlays", fn := fun _ => fun
  | [d1, d2] => { results := [.lit (.bool false)], args := [d1, d2] }
  | _ => none }
def SessPlaysWrongFalsely : Prop := sessPlaysRow.holds Tryd.pinned (OpenSpec.ofChange sessPlaysWrong)

/-- 'sealchainlaw20.SessOnce': WHATEVER THE INPUT: true; the input reads as it did. -/
def sessOnceSpec : ChangeSpec := { name := "sessOnce", fn := fun _ => fun
  | [d] => { results := [.lit (.bool true)], args := [d] }
  | _ => none }
def sessOnceRow : OpenClaim := { program := "ytkpmlcgbffdloaadoor", sum := "123eca5b48128761e93c5449ea8a2290fc23735c4fa0cb8b718dd8b180ea8772", func := "sealchain/sealchainlaw20.SessOnce", spec := "sessOnce", named := ["sealchain/seal.sizes"], apart := false, laid := [("sealchain/seal.sizes", laid_sealchain_seal_sizes)] }
def SessOnceSaid : Prop := sessOnceRow.holds Tryd.pinned (OpenSpec.ofChange sessOnceSpec)

/-- ITS FALSE NEIGHBOUR: 'it returns false'. Refute it at one input. -/
def sessOnceWrong : ChangeSpec := { name := "sessOnce", fn := fun _ => fun
  | [d] => { results := [.lit (.bool false)], args := [d] }
  | _ => none }
def SessOnceWrongFalsely : Prop := sessOnceRow.holds Tryd.pinned (OpenSpec.ofChange sessOnceWrong)

/-- 'sealchainlaw20.SessConfs': WHATEVER THE INPUT: true; the input reads as it did. -/
def sessConfsSpec : ChangeSpec := { name := "sessConfs", fn := fun _ => fun
  | [d] => { results := [.lit (.bool true)], args := [d] }
  | _ => none }
def sessConfsRow : OpenClaim := { program := "ytkpmlcgbffdloaadoor", sum := "123eca5b48128761e93c5449ea8a2290fc23735c4fa0cb8b718dd8b180ea8772", func := "sealchain/sealchainlaw20.SessConfs", spec := "sessConfs", named := ["sealchain/seal.sizes"], apart := false, laid := [("sealchain/seal.sizes", laid_sealchain_seal_sizes)] }
def SessConfsSaid : Prop := sessConfsRow.holds Tryd.pinned (OpenSpec.ofChange sessConfsSpec)

/-- ITS FALSE NEIGHBOUR: 'it returns false'. Refute it at one input. -/
def sessConfsWrong : ChangeSpec := { name := "sessConfs", fn := fun _ => fun
  | [d] => { results := [.lit (.bool false)], args := [d] }
  | _ => none }
def SessConfsWrongFalsely : Prop := sessConfsRow.holds Tryd.pinned (OpenSpec.ofChange sessConfsWrong)

/-- 'sealchainlaw20.SessAgain': WHATEVER THE INPUT: true; the input reads as it did. -/
def sessAgainSpec : ChangeSpec := { name := "sessAgain", fn := fun _ => fun
  | [d1, d2, d3] => { results := [.lit (.bool true)], args := [d1, d2, d3] }
  | _ => none }
def sessAgainRow : OpenClaim := { program := "ytkpmlcgbffdloaadoor", sum := "123eca5b48128761e93c5449ea8a2290fc23735c4fa0cb8b718dd8b180ea8772", func := "sealchain/sealchainlaw20.SessAgain", spec := "sessAgain", named := ["sealchain/seal.sizes"], apart := false, laid := [("sealchain/seal.sizes", laid_sealchain_seal_sizes)] }
def SessAgainSaid : Prop := sessAgainRow.holds Tryd.pinned (OpenSpec.ofChange sessAgainSpec)

/-- ITS FALSE NEIGHBOUR: 'it returns false'. Refute it at one input. -/
def sessAgainWrong : ChangeSpec := { name := "sessAgain", fn := fun _ => fun
  | [d1, d2, d3] => { results := [.lit (.bool false)], args := [d1, d2, d3] }
  | _ => none }
def SessAgainWrongFalsely : Prop := sessAgainRow.holds Tryd.pinned (OpenSpec.ofChange sessAgainWrong)

/-- 'sealchainlaw20.SessStray': WHATEVER THE INPUT: true; the input reads as it did. -/
def sessStraySpec : ChangeSpec := { name := "sessStray", fn := fun _ => fun
  | [d] => { results := [.lit (.bool true)], args := [d] }
  | _ => none }
def sessStrayRow : OpenClaim := { program := "ytkpmlcgbffdloaadoor", sum := "123eca5b48128761e93c5449ea8a2290fc23735c4fa0cb8b718dd8b180ea8772", func := "sealchain/sealchainlaw20.SessStray", spec := "sessStray", named := ["sealchain/seal.sizes"], apart := false, laid := [("sealchain/seal.sizes", laid_sealchain_seal_sizes)] }
def SessStraySaid : Prop := sessStrayRow.holds Tryd.pinned (OpenSpec.ofChange sessStraySpec)

/-- ITS FALSE NEIGHBOUR: 'it returns false'. Refute it at one input. -/
def sessStrayWrong : ChangeSpec := { name := "sessStray", fn := fun _ => fun
  | [d] => { results := [.lit (.bool false)], args := [d] }
  | _ => none }
def SessStrayWrongFalsely : Prop := sessStrayRow.holds Tryd.pinned (OpenSpec.ofChange sessStrayWrong)

/-- 'sealchainlaw20.SessKnown': WHATEVER THE INPUT: true; the input reads as it did. -/
def sessKnownSpec : ChangeSpec := { name := "sessKnown", fn := fun _ => fun
  | [] => { results := [.lit (.bool true)], args := [] }
  | _ => none }
def sessKnownRow : OpenClaim := { program := "ytkpmlcgbffdloaadoor", sum := "123eca5b48128761e93c5449ea8a2290fc23735c4fa0cb8b718dd8b180ea8772", func := "sealchain/sealchainlaw20.SessKnown", spec := "sessKnown", named := ["sealchain/seal.sizes"], apart := false, laid := [("sealchain/seal.sizes", laid_sealchain_seal_sizes)] }
def SessKnownSaid : Prop := sessKnownRow.holds Tryd.pinned (OpenSpec.ofChange sessKnownSpec)

/-- ITS FALSE NEIGHBOUR: 'it returns false'. Refute it at one input. -/
def sessKnownWrong : ChangeSpec := { name := "sessKnown", fn := fun _ => fun
  | [] => { results := [.lit (.bool false)], args := [] }
  | _ => none }
def SessKnownWrongFalsely : Prop := sessKnownRow.holds Tryd.pinned (OpenSpec.ofChange sessKnownWrong)

/- THE SECOND FORM. 'bulk': how many values and letters a reading holds, each counted each time it is reached (what is shared counts as often as it is met; a slice's spare places count too). A statement '..UptoSaid' is the law's where the arguments, and the package variables that the reading takes, are together of bulk at most 1048576: NARROWER than '..Said'. Prove '..Said' where nothing that the law and all that it calls make is longer than what came in: it says more and counts as full. Else prove '..UptoSaid'. A law counts once. -/
mutual
def uptoBulk {H : Type} : DataW H → Nat
  | .lit (.string bytes) => bytes.length + 1
  | .lit _ => 1
  | .nil => 1
  | .ptr d => uptoBulk d + 1
  | .slice elems spare => uptoBulkAll elems + uptoBulkAll spare + 1
  | .agg parts => uptoBulkAll parts + 1
  | .iface _ d => uptoBulk d + 1
  | .map entries => uptoBulkEntries entries + 1
  | .held _ => 1
def uptoBulkAll {H : Type} : List (DataW H) → Nat
  | [] => 0
  | d :: r => uptoBulk d + uptoBulkAll r
def uptoBulkEntries {H : Type} : List (Lit × DataW H) → Nat
  | [] => 0
  | x :: r => uptoBulkEntry x + uptoBulkEntries r
def uptoBulkEntry {H : Type} : Lit × DataW H → Nat
  | (.string bytes, d) => bytes.length + uptoBulk d + 1
  | (_, d) => uptoBulk d + 1
 end
def uptoSmall : (H : Type) → List (DataW H) → Bool := fun _ ds => decide (uptoBulkAll ds ≤ 1048576)
def OpenSpec.upto (s : _root_.Go.ChangeSpec) : _root_.Go.OpenSpec := { _root_.Go.OpenSpec.ofChange s with cond := some uptoSmall }

/-- 'sealchainlaw20.SessPlays', WHERE WHAT IT READS IS OF BULK AT MOST 1048576: true; the input reads as it did. -/
def sessPlaysUptoRow : OpenClaim := { program := "ytkpmlcgbffdloaadoor", sum := "123eca5b48128761e93c5449ea8a2290fc23735c4fa0cb8b718dd8b180ea8772", func := "sealchain/sealchainlaw20.SessPlays", spec := "sessPlays", named := ["sealchain/seal.sizes"], apart := false, laid := [("sealchain/seal.sizes", laid_sealchain_seal_sizes)], narrowed := true }
def SessPlaysUptoSaid : Prop := sessPlaysUptoRow.holds Tryd.pinned (OpenSpec.upto sessPlaysSpec)

/-- 'sealchainlaw20.SessOnce', WHERE WHAT IT READS IS OF BULK AT MOST 1048576: true; the input reads as it did. -/
def sessOnceUptoRow : OpenClaim := { program := "ytkpmlcgbffdloaadoor", sum := "123eca5b48128761e93c5449ea8a2290fc23735c4fa0cb8b718dd8b180ea8772", func := "sealchain/sealchainlaw20.SessOnce", spec := "sessOnce", named := ["sealchain/seal.sizes"], apart := false, laid := [("sealchain/seal.sizes", laid_sealchain_seal_sizes)], narrowed := true }
def SessOnceUptoSaid : Prop := sessOnceUptoRow.holds Tryd.pinned (OpenSpec.upto sessOnceSpec)

/-- 'sealchainlaw20.SessConfs', WHERE WHAT IT READS IS OF BULK AT MOST 1048576: true; the input reads as it did. -/
def sessConfsUptoRow : OpenClaim := { program := "ytkpmlcgbffdloaadoor", sum := "123eca5b48128761e93c5449ea8a2290fc23735c4fa0cb8b718dd8b180ea8772", func := "sealchain/sealchainlaw20.SessConfs", spec := "sessConfs", named := ["sealchain/seal.sizes"], apart := false, laid := [("sealchain/seal.sizes", laid_sealchain_seal_sizes)], narrowed := true }
def SessConfsUptoSaid : Prop := sessConfsUptoRow.holds Tryd.pinned (OpenSpec.upto sessConfsSpec)

/-- 'sealchainlaw20.SessAgain', WHERE WHAT IT READS IS OF BULK AT MOST 1048576: true; the input reads as it did. -/
def sessAgainUptoRow : OpenClaim := { program := "ytkpmlcgbffdloaadoor", sum := "123eca5b48128761e93c5449ea8a2290fc23735c4fa0cb8b718dd8b180ea8772", func := "sealchain/sealchainlaw20.SessAgain", spec := "sessAgain", named := ["sealchain/seal.sizes"], apart := false, laid := [("sealchain/seal.sizes", laid_sealchain_seal_sizes)], narrowed := true }
def SessAgainUptoSaid : Prop := sessAgainUptoRow.holds Tryd.pinned (OpenSpec.upto sessAgainSpec)

/-- 'sealchainlaw20.SessStray', WHERE WHAT IT READS IS OF BULK AT MOST 1048576: true; the input reads as it did. -/
def sessStrayUptoRow : OpenClaim := { program := "ytkpmlcgbffdloaadoor", sum := "123eca5b48128761e93c5449ea8a2290fc23735c4fa0cb8b718dd8b180ea8772", func := "sealchain/sealchainlaw20.SessStray", spec := "sessStray", named := ["sealchain/seal.sizes"], apart := false, laid := [("sealchain/seal.sizes", laid_sealchain_seal_sizes)], narrowed := true }
def SessStrayUptoSaid : Prop := sessStrayUptoRow.holds Tryd.pinned (OpenSpec.upto sessStraySpec)

/-- 'sealchainlaw20.SessKnown', WHERE WHAT IT READS IS OF BULK AT MOST 1048576: true; the input reads as it did. -/
def sessKnownUptoRow : OpenClaim := { program := "ytkpmlcgbffdloaadoor", sum := "123eca5b48128761e93c5449ea8a2290fc23735c4fa0cb8b718dd8b180ea8772", func := "sealchain/sealchainlaw20.SessKnown", spec := "sessKnown", named := ["sealchain/seal.sizes"], apart := false, laid := [("sealchain/seal.sizes", laid_sealchain_seal_sizes)], narrowed := true }
def SessKnownUptoSaid : Prop := sessKnownUptoRow.holds Tryd.pinned (OpenSpec.upto sessKnownSpec)

end Rows
end Go.Proofs.YtkpmlcgbffdloaaDoor
