/-
  NARROWER THAN 'FOR EVERY INPUT', by the rows' own cells (each row's printed sentence says how): TableOnce: laid · TableNext: laid · TableAgain: laid.
  DERIVED. THE GIVEN ROWS OF THIS SEAT. 3 by the template 'for every input the law returns true; each argument reads behind the call as it read before'; 0 by the template 'total and deterministic' (their statements: YtmlmhnhilemjhaaDoorTotals.lean).
  GIVEN WITH THE SEED: the statements are not yours to turn. If you find one false, say at which input.
  Laid BY PROGRAM, IN A SANDBOX (cutbox-rows.mjs): the forced cells as the released guide's own fill.sh prints them over the translation ed9dac0f9b20aef6… (all of the seat's roots in one cut). By AI agents, Wed Nov 11 2026. No macro, syntax, notation, axiom, sorry.
-/
import Derived.Test.YtmlmhnhilemjhaaDoorChecked
import GoSem.Claim
import GoSem.ClaimJoined
import GoSem.ClaimMapViews
import Derived.JoinedTies
import Derived.KernelRfl
namespace Go.Proofs.YtmlmhnhilemjhaaDoor
/- THE CELL 'sum', in the pinned program and in every row, IS THE sha256 OF THE DUMP (.gsa) THAT YtmlmhnhilemjhaaDoorProg.lean LOADS. Nothing in Lean hashes anything: it is a label: what it is worth is what the hold of that sum in a sandbox is worth. -/
noncomputable def Tryd.pinned : Pinned := { name := "ytmlmhnhilemjhaadoor", sum := "ed9dac0f9b20aef6ceb63393b1cca53a0885f0cae392ccf283747b3725583e9b", checked := Tryd.checked }
namespace Rows
def none {H : Type} : Left H := { results := [], args := [] }

/- WHAT THE LISTED PACKAGE-LEVEL VARIABLES READ AS WHEN THE CALL BEGINS. Each datum BY PROGRAM (the guide's laid-datum.mjs) off the statement by which the dump's own 'gosem.cut.vars' lays the variable. In a bare row this is a premise. The card (YtmlmhnhilemjhaaDoorCards.lean) ties it to the program's text. -/
def laid_sealchain_seal_sizes {H : Type} : DataW H := .agg [.lit (.int .i64 45), .lit (.int .i64 93), .lit (.int .i64 285)]

/-- 'sealchainlaw18.TableOnce': WHATEVER THE INPUT: true; the input reads as it did. -/
def tableOnceSpec : ChangeSpec := { name := "tableOnce", fn := fun _ => fun
  | [d] => { results := [.lit (.bool true)], args := [d] }
  | _ => none }
def tableOnceRow : OpenClaim := { program := "ytmlmhnhilemjhaadoor", sum := "ed9dac0f9b20aef6ceb63393b1cca53a0885f0cae392ccf283747b3725583e9b", func := "sealchain/sealchainlaw18.TableOnce", spec := "tableOnce", inPlace := ["internal/bytealg.Compare", "slices.overlaps[sealchain/api.Name]", "slices.overlaps[sealchain/table.object]", "slices.overlaps[int]", "slices.overlaps[sealchain/api.Ans]"], unfollowed := true, recurses := true, named := ["sealchain/seal.sizes"], apart := false, laid := [("sealchain/seal.sizes", laid_sealchain_seal_sizes)] }
def TableOnceSaid : Prop := tableOnceRow.holds Tryd.pinned (OpenSpec.ofChange tableOnceSpec)

/-- ITS FALSE NEIGHBOUR: 'it returns false'. Refute it at one input. -/
def tableOnceWrong : ChangeSpec := { name := "tableOnce", fn := fun _ => fun
  | [d] => { results := [.lit (.bool false)], args := [d] }
  | _ => none }
def TableOnceWrongFalsely : Prop := tableOnceRow.holds Tryd.pinned (OpenSpec.ofChange tableOnceWrong)

/-- 'sealchainlaw18.TableNext': WHATEVER THE INPUT: true; the input reads as it did. -/
def tableNextSpec : ChangeSpec := { name := "tableNext", fn := fun _ => fun
  | [d] => { results := [.lit (.bool true)], args := [d] }
  | _ => none }
def tableNextRow : OpenClaim := { program := "ytmlmhnhilemjhaadoor", sum := "ed9dac0f9b20aef6ceb63393b1cca53a0885f0cae392ccf283747b3725583e9b", func := "sealchain/sealchainlaw18.TableNext", spec := "tableNext", inPlace := ["internal/bytealg.Compare", "slices.overlaps[sealchain/api.Name]", "slices.overlaps[sealchain/table.object]", "slices.overlaps[int]", "slices.overlaps[sealchain/api.Ans]"], unfollowed := true, recurses := true, named := ["sealchain/seal.sizes"], apart := false, laid := [("sealchain/seal.sizes", laid_sealchain_seal_sizes)] }
def TableNextSaid : Prop := tableNextRow.holds Tryd.pinned (OpenSpec.ofChange tableNextSpec)

/-- ITS FALSE NEIGHBOUR: 'it returns false'. Refute it at one input. -/
def tableNextWrong : ChangeSpec := { name := "tableNext", fn := fun _ => fun
  | [d] => { results := [.lit (.bool false)], args := [d] }
  | _ => none }
def TableNextWrongFalsely : Prop := tableNextRow.holds Tryd.pinned (OpenSpec.ofChange tableNextWrong)

/-- 'sealchainlaw18.TableAgain': WHATEVER THE INPUT: true; the input reads as it did. -/
def tableAgainSpec : ChangeSpec := { name := "tableAgain", fn := fun _ => fun
  | [d] => { results := [.lit (.bool true)], args := [d] }
  | _ => none }
def tableAgainRow : OpenClaim := { program := "ytmlmhnhilemjhaadoor", sum := "ed9dac0f9b20aef6ceb63393b1cca53a0885f0cae392ccf283747b3725583e9b", func := "sealchain/sealchainlaw18.TableAgain", spec := "tableAgain", inPlace := ["internal/bytealg.Compare", "slices.overlaps[sealchain/api.Name]", "slices.overlaps[sealchain/table.object]", "slices.overlaps[int]", "slices.overlaps[sealchain/api.Ans]"], unfollowed := true, recurses := true, named := ["sealchain/seal.sizes"], apart := false, laid := [("sealchain/seal.sizes", laid_sealchain_seal_sizes)] }
def TableAgainSaid : Prop := tableAgainRow.holds Tryd.pinned (OpenSpec.ofChange tableAgainSpec)

/-- ITS FALSE NEIGHBOUR: 'it returns false'. Refute it at one input. -/
def tableAgainWrong : ChangeSpec := { name := "tableAgain", fn := fun _ => fun
  | [d] => { results := [.lit (.bool false)], args := [d] }
  | _ => none }
def TableAgainWrongFalsely : Prop := tableAgainRow.holds Tryd.pinned (OpenSpec.ofChange tableAgainWrong)

/- THE SECOND FORM. 'bulk': how many values and letters a reading holds, each counted each time it is reached (what is shared counts as often as it is met; a slice's spare places count too). A statement '..UptoSaid' is the law's where the arguments, and the package variables that the reading takes, are together of bulk at most 1048576: NARROWER than '..Said'. Prove '..Said' where nothing that the law and all that it calls make is longer than what came in: it says more and counts as full. Else prove '..UptoSaid'. A law counts once. -/
mutual
def uptoBulk {H : Type} : DataW H → Nat
  | .lit (.string bytes) => bytes.length + 1
  | .lit _ => 1
  | .nil => 1
  | .ptr d => uptoBulk d + 1
  | .slice elems spare => uptoBulkAll elems + uptoBulkAll spare + 1
  | .agg parts => uptoBulkAll parts + 1
  | .iface _ d => uptoBulk d + 1
  | .map entries => uptoBulkEntries entries + 1
  | .held _ => 1
def uptoBulkAll {H : Type} : List (DataW H) → Nat
  | [] => 0
  | d :: r => uptoBulk d + uptoBulkAll r
def uptoBulkEntries {H : Type} : List (Lit × DataW H) → Nat
  | [] => 0
  | x :: r => uptoBulkEntry x + uptoBulkEntries r
def uptoBulkEntry {H : Type} : Lit × DataW H → Nat
  | (.string bytes, d) => bytes.length + uptoBulk d + 1
  | (_, d) => uptoBulk d + 1
 end
def uptoSmall : (H : Type) → List (DataW H) → Bool := fun _ ds => decide (uptoBulkAll ds ≤ 1048576)
def OpenSpec.upto (s : _root_.Go.ChangeSpec) : _root_.Go.OpenSpec := { _root_.Go.OpenSpec.ofChange s with cond := some uptoSmall }

/-- 'sealchainlaw18.TableOnce', WHERE WHAT IT READS IS OF BULK AT MOST 1048576: true; the input reads as it did. -/
def tableOnceUptoRow : OpenClaim := { program := "ytmlmhnhilemjhaadoor", sum := "ed9dac0f9b20aef6ceb63393b1cca53a0885f0cae392ccf283747b3725583e9b", func := "sealchain/sealchainlaw18.TableOnce", spec := "tableOnce", inPlace := ["internal/bytealg.Compare", "slices.overlaps[sealchain/api.Name]", "slices.overlaps[sealchain/table.object]", "slices.overlaps[int]", "slices.overlaps[sealchain/api.Ans]"], unfollowed := true, recurses := true, named := ["sealchain/seal.sizes"], apart := false, laid := [("sealchain/seal.sizes", laid_sealchain_seal_sizes)], narrowed := true }
def TableOnceUptoSaid : Prop := tableOnceUptoRow.holds Tryd.pinned (OpenSpec.upto tableOnceSpec)

/-- 'sealchainlaw18.TableNext', WHERE WHAT IT READS IS OF BULK AT MOST 1048576: true; the input reads as it did. -/
def tableNextUptoRow : OpenClaim := { program := "ytmlmhnhilemjhaadoor", sum := "ed9dac0f9b20aef6ceb63393b1cca53a0885f0cae392ccf283747b3725583e9b", func := "sealchain/sealchainlaw18.TableNext", spec := "tableNext", inPlace := ["internal/bytealg.Compare", "slices.overlaps[sealchain/api.Name]", "slices.overlaps[sealchain/table.object]", "slices.overlaps[int]", "slices.overlaps[sealchain/api.Ans]"], unfollowed := true, recurses := true, named := ["sealchain/seal.sizes"], apart := false, laid := [("sealchain/seal.sizes", laid_sealchain_seal_sizes)], narrowed := true }
def TableNextUptoSaid : Prop := tableNextUptoRow.holds Tryd.pinned (OpenSpec.upto tableNextSpec)

/-- 'sealchainlaw18.TableAgain', WHERE WHAT IT READS IS OF BULK AT MOST 1048576: true; the input reads as it did. -/
def tableAgainUptoRow : OpenClaim := { program := "ytmlmhnhilemjhaadoor", sum := "ed9dac0f9b20aef6ceb63393b1cca53a0885f0cae392ccf283747b3725583e9b", func := "sealchain/sealchainlaw18.TableAgain", spec := "tableAgain", inPlace := ["internal/bytealg.Compare", "slices.overlaps[sealchain/api.Name]", "slices.overlaps[sealchain/table.object]", "slices.overlaps[int]", "slices.overlaps[sealchain/api.Ans]"], unfollowed := true, recurses := true, named := ["sealchain/seal.sizes"], apart := false, laid := [("sealchain/seal.sizes", laid_sealchain_seal_sizes)], narrowed := true }
def TableAgainUptoSaid : Prop := tableAgainUptoRow.holds Tryd.pinned (OpenSpec.upto tableAgainSpec)

end Rows
end Go.Proofs.YtmlmhnhilemjhaaDoor
