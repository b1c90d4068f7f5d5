/-
  No cell of these rows narrows 'for every input' (looked for: loops, veiled, ifaces, maps, wideKeys, modest, calm, conditions, laid).
  DERIVED. THE GIVEN ROWS OF THIS SEAT. 8 by the template 'for every input the law returns true; each argument reads behind the call as it read before'; 0 by the template 'total and deterministic' (their statements: YtbjonlfjfjlelaaTotals.lean).
  GIVEN WITH THE SEED: the statements are not yours to turn. If you find one false, say at which input.
  Laid BY PROGRAM, IN A SANDBOX (cutbox-rows.mjs): the forced cells as the released guide's own fill.sh prints them over the translation 5e7da523bdb15da2… (all of the seat's roots in one cut). By AI agents, Wed Nov 11 2026. No macro, syntax, notation, axiom, sorry.
-/
import Derived.Test.YtbjonlfjfjlelaaChecked
import GoSem.Claim
import GoSem.ClaimJoined
import GoSem.ClaimMapViews
import Derived.JoinedTies
import Derived.KernelRfl
namespace Go.Proofs.Ytbjonlfjfjlelaa
/- THE CELL 'sum', in the pinned program and in every row, IS THE sha256 OF THE DUMP (.gsa) THAT YtbjonlfjfjlelaaProg.lean LOADS. Nothing in Lean hashes anything: it is a label: what it is worth is what the hold of that sum in a sandbox is worth. -/
noncomputable def Try.pinned : Pinned := { name := "ytbjonlfjfjlelaa", sum := "5e7da523bdb15da2ed4d7b4351b4ec1e452a5dc5d33654602565e6dfb988a82c", checked := Try.checked }
namespace Rows
def none {H : Type} : Left H := { results := [], args := [] }

/-- 'sealchainlaw13.DiskPlays': WHATEVER THE INPUT: true; the input reads as it did. -/
def diskPlaysSpec : ChangeSpec := { name := "diskPlays", fn := fun _ => fun
  | [d] => { results := [.lit (.bool true)], args := [d] }
  | _ => none }
def diskPlaysRow : OpenClaim := { program := "ytbjonlfjfjlelaa", sum := "5e7da523bdb15da2ed4d7b4351b4ec1e452a5dc5d33654602565e6dfb988a82c", func := "sealchain/sealchainlaw13.DiskPlays", spec := "diskPlays", unfollowed := true, recurses := true, apart := false }
def DiskPlaysSaid : Prop := diskPlaysRow.holds Try.pinned (OpenSpec.ofChange diskPlaysSpec)

/-- ITS FALSE NEIGHBOUR: 'it returns false'. Refute it at one input. -/
def diskPlaysWrong : ChangeSpec := { name := "diskPlays", fn := fun _ => fun
  | [d] => { results := [.lit (.bool false)], args := [d] }
  | _ => none }
def DiskPlaysWrongFalsely : Prop := diskPlaysRow.holds Try.pinned (OpenSpec.ofChange diskPlaysWrong)

/-- 'sealchainlaw13.DiskNames': WHATEVER THE INPUT: true; the input reads as it did. -/
def diskNamesSpec : ChangeSpec := { name := "diskNames", fn := fun _ => fun
  | [] => { results := [.lit (.bool true)], args := [] }
  | _ => none }
def diskNamesRow : OpenClaim := { program := "ytbjonlfjfjlelaa", sum := "5e7da523bdb15da2ed4d7b4351b4ec1e452a5dc5d33654602565e6dfb988a82c", func := "sealchain/sealchainlaw13.DiskNames", spec := "diskNames", unfollowed := true, recurses := true, apart := false }
def DiskNamesSaid : Prop := diskNamesRow.holds Try.pinned (OpenSpec.ofChange diskNamesSpec)

/-- ITS FALSE NEIGHBOUR: 'it returns false'. Refute it at one input. -/
def diskNamesWrong : ChangeSpec := { name := "diskNames", fn := fun _ => fun
  | [] => { results := [.lit (.bool false)], args := [] }
  | _ => none }
def DiskNamesWrongFalsely : Prop := diskNamesRow.holds Try.pinned (OpenSpec.ofChange diskNamesWrong)

/-- 'sealchainlaw16.LeadPlays': WHATEVER THE INPUT: true; the input reads as it did. -/
def leadPlaysSpec : ChangeSpec := { name := "leadPlays", fn := fun _ => fun
  | [d1, d2] => { results := [.lit (.bool true)], args := [d1, d2] }
  | _ => none }
def leadPlaysRow : OpenClaim := { program := "ytbjonlfjfjlelaa", sum := "5e7da523bdb15da2ed4d7b4351b4ec1e452a5dc5d33654602565e6dfb988a82c", func := "sealchain/sealchainlaw16.LeadPlays", spec := "leadPlays", unfollowed := true, recurses := true, apart := false }
def LeadPlaysSaid : Prop := leadPlaysRow.holds Try.pinned (OpenSpec.ofChange leadPlaysSpec)

/-- ITS FALSE NEIGHBOUR: 'it returns false'. Refute it at one input. -/
def leadPlaysWrong : ChangeSpec := { name := "leadPlays", fn := fun _ => fun
  | [d1, d2] => { results := [.lit (.bool false)], args := [d1, d2] }
  | _ => none }
def LeadPlaysWrongFalsely : Prop := leadPlaysRow.holds Try.pinned (OpenSpec.ofChange leadPlaysWrong)

/-- 'sealchainlaw16.LeadBallots': WHATEVER THE INPUT: true; the input reads as it did. -/
def leadBallotsSpec : ChangeSpec := { name := "leadBallots", fn := fun _ => fun
  | [d] => { results := [.lit (.bool true)], args := [d] }
  | _ => none }
def leadBallotsRow : OpenClaim := { program := "ytbjonlfjfjlelaa", sum := "5e7da523bdb15da2ed4d7b4351b4ec1e452a5dc5d33654602565e6dfb988a82c", func := "sealchain/sealchainlaw16.LeadBallots", spec := "leadBallots", unfollowed := true, recurses := true, apart := false }
def LeadBallotsSaid : Prop := leadBallotsRow.holds Try.pinned (OpenSpec.ofChange leadBallotsSpec)

/-- ITS FALSE NEIGHBOUR: 'it returns false'. Refute it at one input. -/
def leadBallotsWrong : ChangeSpec := { name := "leadBallots", fn := fun _ => fun
  | [d] => { results := [.lit (.bool false)], args := [d] }
  | _ => none }
def LeadBallotsWrongFalsely : Prop := leadBallotsRow.holds Try.pinned (OpenSpec.ofChange leadBallotsWrong)

/-- 'sealchainlaw16.LeadAgrees': WHATEVER THE INPUT: true; the input reads as it did. -/
def leadAgreesSpec : ChangeSpec := { name := "leadAgrees", fn := fun _ => fun
  | [d] => { results := [.lit (.bool true)], args := [d] }
  | _ => none }
def leadAgreesRow : OpenClaim := { program := "ytbjonlfjfjlelaa", sum := "5e7da523bdb15da2ed4d7b4351b4ec1e452a5dc5d33654602565e6dfb988a82c", func := "sealchain/sealchainlaw16.LeadAgrees", spec := "leadAgrees", unfollowed := true, recurses := true, apart := false }
def LeadAgreesSaid : Prop := leadAgreesRow.holds Try.pinned (OpenSpec.ofChange leadAgreesSpec)

/-- ITS FALSE NEIGHBOUR: 'it returns false'. Refute it at one input. -/
def leadAgreesWrong : ChangeSpec := { name := "leadAgrees", fn := fun _ => fun
  | [d] => { results := [.lit (.bool false)], args := [d] }
  | _ => none }
def LeadAgreesWrongFalsely : Prop := leadAgreesRow.holds Try.pinned (OpenSpec.ofChange leadAgreesWrong)

/-- 'sealchainlaw16.LeadBinds': WHATEVER THE INPUT: true; the input reads as it did. -/
def leadBindsSpec : ChangeSpec := { name := "leadBinds", fn := fun _ => fun
  | [d1, d2, d3] => { results := [.lit (.bool true)], args := [d1, d2, d3] }
  | _ => none }
def leadBindsRow : OpenClaim := { program := "ytbjonlfjfjlelaa", sum := "5e7da523bdb15da2ed4d7b4351b4ec1e452a5dc5d33654602565e6dfb988a82c", func := "sealchain/sealchainlaw16.LeadBinds", spec := "leadBinds", unfollowed := true, recurses := true, apart := false }
def LeadBindsSaid : Prop := leadBindsRow.holds Try.pinned (OpenSpec.ofChange leadBindsSpec)

/-- ITS FALSE NEIGHBOUR: 'it returns false'. Refute it at one input. -/
def leadBindsWrong : ChangeSpec := { name := "leadBinds", fn := fun _ => fun
  | [d1, d2, d3] => { results := [.lit (.bool false)], args := [d1, d2, d3] }
  | _ => none }
def LeadBindsWrongFalsely : Prop := leadBindsRow.holds Try.pinned (OpenSpec.ofChange leadBindsWrong)

/-- 'sealchainlaw16.LeadCounts': WHATEVER THE INPUT: true; the input reads as it did. -/
def leadCountsSpec : ChangeSpec := { name := "leadCounts", fn := fun _ => fun
  | [d1, d2, d3] => { results := [.lit (.bool true)], args := [d1, d2, d3] }
  | _ => none }
def leadCountsRow : OpenClaim := { program := "ytbjonlfjfjlelaa", sum := "5e7da523bdb15da2ed4d7b4351b4ec1e452a5dc5d33654602565e6dfb988a82c", func := "sealchain/sealchainlaw16.LeadCounts", spec := "leadCounts", unfollowed := true, recurses := true, apart := false }
def LeadCountsSaid : Prop := leadCountsRow.holds Try.pinned (OpenSpec.ofChange leadCountsSpec)

/-- ITS FALSE NEIGHBOUR: 'it returns false'. Refute it at one input. -/
def leadCountsWrong : ChangeSpec := { name := "leadCounts", fn := fun _ => fun
  | [d1, d2, d3] => { results := [.lit (.bool false)], args := [d1, d2, d3] }
  | _ => none }
def LeadCountsWrongFalsely : Prop := leadCountsRow.holds Try.pinned (OpenSpec.ofChange leadCountsWrong)

/-- 'sealchainlaw16.LeadNames': WHATEVER THE INPUT: true; the input reads as it did. -/
def leadNamesSpec : ChangeSpec := { name := "leadNames", fn := fun _ => fun
  | [] => { results := [.lit (.bool true)], args := [] }
  | _ => none }
def leadNamesRow : OpenClaim := { program := "ytbjonlfjfjlelaa", sum := "5e7da523bdb15da2ed4d7b4351b4ec1e452a5dc5d33654602565e6dfb988a82c", func := "sealchain/sealchainlaw16.LeadNames", spec := "leadNames", unfollowed := true, recurses := true, apart := false }
def LeadNamesSaid : Prop := leadNamesRow.holds Try.pinned (OpenSpec.ofChange leadNamesSpec)

/-- ITS FALSE NEIGHBOUR: 'it returns false'. Refute it at one input. -/
def leadNamesWrong : ChangeSpec := { name := "leadNames", fn := fun _ => fun
  | [] => { results := [.lit (.bool false)], args := [] }
  | _ => none }
def LeadNamesWrongFalsely : Prop := leadNamesRow.holds Try.pinned (OpenSpec.ofChange leadNamesWrong)

/- THE SECOND FORM. 'bulk': how many values and letters a reading holds, each counted each time it is reached (what is shared counts as often as it is met; a slice's spare places count too). A statement '..UptoSaid' is the law's where the arguments, and the package variables that the reading takes, are together of bulk at most 1048576: NARROWER than '..Said'. Prove '..Said' where nothing that the law and all that it calls make is longer than what came in: it says more and counts as full. Else prove '..UptoSaid'. A law counts once. -/
mutual
def uptoBulk {H : Type} : DataW H → Nat
  | .lit (.string bytes) => bytes.length + 1
  | .lit _ => 1
  | .nil => 1
  | .ptr d => uptoBulk d + 1
  | .slice elems spare => uptoBulkAll elems + uptoBulkAll spare + 1
  | .agg parts => uptoBulkAll parts + 1
  | .iface _ d => uptoBulk d + 1
  | .map entries => uptoBulkEntries entries + 1
  | .held _ => 1
def uptoBulkAll {H : Type} : List (DataW H) → Nat
  | [] => 0
  | d :: r => uptoBulk d + uptoBulkAll r
def uptoBulkEntries {H : Type} : List (Lit × DataW H) → Nat
  | [] => 0
  | x :: r => uptoBulkEntry x + uptoBulkEntries r
def uptoBulkEntry {H : Type} : Lit × DataW H → Nat
  | (.string bytes, d) => bytes.length + uptoBulk d + 1
  | (_, d) => uptoBulk d + 1
 end
def uptoSmall : (H : Type) → List (DataW H) → Bool := fun _ ds => decide (uptoBulkAll ds ≤ 1048576)
def OpenSpec.upto (s : _root_.Go.ChangeSpec) : _root_.Go.OpenSpec := { _root_.Go.OpenSpec.ofChange s with cond := some uptoSmall }

/-- 'sealchainlaw13.DiskPlays', WHERE WHAT IT READS IS OF BULK AT MOST 1048576: true; the input reads as it did. -/
def diskPlaysUptoRow : OpenClaim := { program := "ytbjonlfjfjlelaa", sum := "5e7da523bdb15da2ed4d7b4351b4ec1e452a5dc5d33654602565e6dfb988a82c", func := "sealchain/sealchainlaw13.DiskPlays", spec := "diskPlays", unfollowed := true, recurses := true, apart := false, narrowed := true }
def DiskPlaysUptoSaid : Prop := diskPlaysUptoRow.holds Try.pinned (OpenSpec.upto diskPlaysSpec)

/-- 'sealchainlaw13.DiskNames', WHERE WHAT IT READS IS OF BULK AT MOST 1048576: true; the input reads as it did. -/
def diskNamesUptoRow : OpenClaim := { program := "ytbjonlfjfjlelaa", sum := "5e7da523bdb15da2ed4d7b4351b4ec1e452a5dc5d33654602565e6dfb988a82c", func := "sealchain/sealchainlaw13.DiskNames", spec := "diskNames", unfollowed := true, recurses := true, apart := false, narrowed := true }
def DiskNamesUptoSaid : Prop := diskNamesUptoRow.holds Try.pinned (OpenSpec.upto diskNamesSpec)

/-- 'sealchainlaw16.LeadPlays', WHERE WHAT IT READS IS OF BULK AT MOST 1048576: true; the input reads as it did. -/
def leadPlaysUptoRow : OpenClaim := { program := "ytbjonlfjfjlelaa", sum := "5e7da523bdb15da2ed4d7b4351b4ec1e452a5dc5d33654602565e6dfb988a82c", func := "sealchain/sealchainlaw16.LeadPlays", spec := "leadPlays", unfollowed := true, recurses := true, apart := false, narrowed := true }
def LeadPlaysUptoSaid : Prop := leadPlaysUptoRow.holds Try.pinned (OpenSpec.upto leadPlaysSpec)

/-- 'sealchainlaw16.LeadBallots', WHERE WHAT IT READS IS OF BULK AT MOST 1048576: true; the input reads as it did. -/
def leadBallotsUptoRow : OpenClaim := { program := "ytbjonlfjfjlelaa", sum := "5e7da523bdb15da2ed4d7b4351b4ec1e452a5dc5d33654602565e6dfb988a82c", func := "sealchain/sealchainlaw16.LeadBallots", spec := "leadBallots", unfollowed := true, recurses := true, apart := false, narrowed := true }
def LeadBallotsUptoSaid : Prop := leadBallotsUptoRow.holds Try.pinned (OpenSpec.upto leadBallotsSpec)

/-- 'sealchainlaw16.LeadAgrees', WHERE WHAT IT READS IS OF BULK AT MOST 1048576: true; the input reads as it did. -/
def leadAgreesUptoRow : OpenClaim := { program := "ytbjonlfjfjlelaa", sum := "5e7da523bdb15da2ed4d7b4351b4ec1e452a5dc5d33654602565e6dfb988a82c", func := "sealchain/sealchainlaw16.LeadAgrees", spec := "leadAgrees", unfollowed := true, recurses := true, apart := false, narrowed := true }
def LeadAgreesUptoSaid : Prop := leadAgreesUptoRow.holds Try.pinned (OpenSpec.upto leadAgreesSpec)

/-- 'sealchainlaw16.LeadBinds', WHERE WHAT IT READS IS OF BULK AT MOST 1048576: true; the input reads as it did. -/
def leadBindsUptoRow : OpenClaim := { program := "ytbjonlfjfjlelaa", sum := "5e7da523bdb15da2ed4d7b4351b4ec1e452a5dc5d33654602565e6dfb988a82c", func := "sealchain/sealchainlaw16.LeadBinds", spec := "leadBinds", unfollowed := true, recurses := true, apart := false, narrowed := true }
def LeadBindsUptoSaid : Prop := leadBindsUptoRow.holds Try.pinned (OpenSpec.upto leadBindsSpec)

/-- 'sealchainlaw16.LeadCounts', WHERE WHAT IT READS IS OF BULK AT MOST 1048576: true; the input reads as it did. -/
def leadCountsUptoRow : OpenClaim := { program := "ytbjonlfjfjlelaa", sum := "5e7da523bdb15da2ed4d7b4351b4ec1e452a5dc5d33654602565e6dfb988a82c", func := "sealchain/sealchainlaw16.LeadCounts", spec := "leadCounts", unfollowed := true, recurses := true, apart := false, narrowed := true }
def LeadCountsUptoSaid : Prop := leadCountsUptoRow.holds Try.pinned (OpenSpec.upto leadCountsSpec)

/-- 'sealchainlaw16.LeadNames', WHERE WHAT IT READS IS OF BULK AT MOST 1048576: true; the input reads as it did. -/
def leadNamesUptoRow : OpenClaim := { program := "ytbjonlfjfjlelaa", sum := "5e7da523bdb15da2ed4d7b4351b4ec1e452a5dc5d33654602565e6dfb988a82c", func := "sealchain/sealchainlaw16.LeadNames", spec := "leadNames", unfollowed := true, recurses := true, apart := false, narrowed := true }
def LeadNamesUptoSaid : Prop := leadNamesUptoRow.holds Try.pinned (OpenSpec.upto leadNamesSpec)

end Rows
end Go.Proofs.Ytbjonlfjfjlelaa
