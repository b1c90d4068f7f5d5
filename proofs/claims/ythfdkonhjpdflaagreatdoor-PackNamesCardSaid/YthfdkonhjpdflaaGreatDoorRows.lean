/-
  NARROWER THAN 'FOR EVERY INPUT', by the rows' own cells (each row's printed sentence says how): PackWrites: laid · PackReads: laid · PackNames: laid.
  DERIVED. THE GIVEN ROWS OF THIS SEAT. 3 by the template 'for every input the law returns true; each argument reads behind the call as it read before'; 0 by the template 'total and deterministic' (their statements: YthfdkonhjpdflaaGreatDoorTotals.lean).
  GIVEN WITH THE SEED: the statements are not yours to turn. If you find one false, say at which input.
  Laid BY PROGRAM, IN A SANDBOX (cutbox-rows.mjs): the forced cells as the released guide's own fill.sh prints them over the translation ebd31d86366ef8ef… (all of the seat's roots in one cut). By AI agents, Wed Nov 11 2026. No macro, syntax, notation, axiom, sorry.
-/
import Derived.Test.YthfdkonhjpdflaaGreatDoorChecked
import GoSem.Claim
import GoSem.ClaimJoined
import GoSem.ClaimMapViews
import Derived.JoinedTies
import Derived.KernelRfl
namespace Go.Proofs.YthfdkonhjpdflaaGreatDoor
/- THE CELL 'sum', in the pinned program and in every row, IS THE sha256 OF THE DUMP (.gsa) THAT YthfdkonhjpdflaaGreatDoorProg.lean LOADS. Nothing in Lean hashes anything: it is a label: what it is worth is what the hold of that sum in a sandbox is worth. -/
noncomputable def Tryz.pinned : Pinned := { name := "ythfdkonhjpdflaagreatdoor", sum := "ebd31d86366ef8efb65190509d0e3bcb0b77c8259ef773a3b2f5ac5355d97467", checked := Tryz.checked }
namespace Rows
def none {H : Type} : Left H := { results := [], args := [] }

/- WHAT THE LISTED PACKAGE-LEVEL VARIABLES READ AS WHEN THE CALL BEGINS. Each datum BY PROGRAM (the guide's laid-datum.mjs) off the statement by which the dump's own 'gosem.cut.vars' lays the variable. In a bare row this is a premise. The card (YthfdkonhjpdflaaGreatDoorCards.lean) ties it to the program's text. -/
def laid_sealchain_pack_fields {H : Type} : DataW H := .agg [.lit (.int .i64 0), .lit (.int .i64 16), .lit (.int .i64 32), .lit (.int .i64 19), .lit (.int .i64 3), .lit (.int .i64 3), .lit (.int .i64 259), .lit (.int .i64 64), .lit (.int .i64 9), .lit (.int .i64 1024), .lit (.int .i64 6), .lit (.int .i64 134), .lit (.int .i64 70), .lit (.int .i64 6), .lit (.int .i64 4)]

/-- 'sealchainlaw11.PackWrites': WHATEVER THE INPUT: true; the input reads as it did. -/
def packWritesSpec : ChangeSpec := { name := "packWrites", fn := fun _ => fun
  | [d1, d2] => { results := [.lit (.bool true)], args := [d1, d2] }
  | _ => none }
def packWritesRow : OpenClaim := { program := "ythfdkonhjpdflaagreatdoor", sum := "ebd31d86366ef8efb65190509d0e3bcb0b77c8259ef773a3b2f5ac5355d97467", func := "sealchain/sealchainlaw11.PackWrites", spec := "packWrites", unfollowed := true, recurses := true, named := ["sealchain/pack.fields"], apart := false, laid := [("sealchain/pack.fields", laid_sealchain_pack_fields)] }
def PackWritesSaid : Prop := packWritesRow.holds Tryz.pinned (OpenSpec.ofChange packWritesSpec)

/-- ITS FALSE NEIGHBOUR: 'it returns false'. Refute it at one input. -/
def packWritesWrong : ChangeSpec := { name := "packWrites", fn := fun _ => fun
  | [d1, d2] => { results := [.lit (.bool false)], args := [d1, d2] }
  | _ => none }
def PackWritesWrongFalsely : Prop := packWritesRow.holds Tryz.pinned (OpenSpec.ofChange packWritesWrong)

/-- 'sealchainlaw11.PackReads': WHATEVER THE INPUT: true; the input reads as it did. -/
def packReadsSpec : ChangeSpec := { name := "packReads", fn := fun _ => fun
  | [d] => { results := [.lit (.bool true)], args := [d] }
  | _ => none }
def packReadsRow : OpenClaim := { program := "ythfdkonhjpdflaagreatdoor", sum := "ebd31d86366ef8efb65190509d0e3bcb0b77c8259ef773a3b2f5ac5355d97467", func := "sealchain/sealchainlaw11.PackReads", spec := "packReads", unfollowed := true, recurses := true, named := ["sealchain/pack.fields"], apart := false, laid := [("sealchain/pack.fields", laid_sealchain_pack_fields)] }
def PackReadsSaid : Prop := packReadsRow.holds Tryz.pinned (OpenSpec.ofChange packReadsSpec)

/-- ITS FALSE NEIGHBOUR: 'it returns false'. Refute it at one input. -/
def packReadsWrong : ChangeSpec := { name := "packReads", fn := fun _ => fun
  | [d] => { results := [.lit (.bool false)], args := [d] }
  | _ => none }
def PackReadsWrongFalsely : Prop := packReadsRow.holds Tryz.pinned (OpenSpec.ofChange packReadsWrong)

/-- 'sealchainlaw11.PackNames': WHATEVER THE INPUT: true; the input reads as it did. -/
def packNamesSpec : ChangeSpec := { name := "packNames", fn := fun _ => fun
  | [] => { results := [.lit (.bool true)], args := [] }
  | _ => none }
def packNamesRow : OpenClaim := { program := "ythfdkonhjpdflaagreatdoor", sum := "ebd31d86366ef8efb65190509d0e3bcb0b77c8259ef773a3b2f5ac5355d97467", func := "sealchain/sealchainlaw11.PackNames", spec := "packNames", unfollowed := true, recurses := true, named := ["sealchain/pack.fields"], apart := false, laid := [("sealchain/pack.fields", laid_sealchain_pack_fields)] }
def PackNamesSaid : Prop := packNamesRow.holds Tryz.pinned (OpenSpec.ofChange packNamesSpec)

/-- ITS FALSE NEIGHBOUR: 'it returns false'. Refute it at one input. -/
def packNamesWrong : ChangeSpec := { name := "packNames", fn := fun _ => fun
  | [] => { results := [.lit (.bool false)], args := [] }
  | _ => none }
def PackNamesWrongFalsely : Prop := packNamesRow.holds Tryz.pinned (OpenSpec.ofChange packNamesWrong)

/- THE SECOND FORM. 'bulk': how many values and letters a reading holds, each counted each time it is reached (what is shared counts as often as it is met; a slice's spare places count too). A statement '..UptoSaid' is the law's where the arguments, and the package variables that the reading takes, are together of bulk at most 1048576: NARROWER than '..Said'. Prove '..Said' where nothing that the law and all that it calls make is longer than what came in: it says more and counts as full. Else prove '..UptoSaid'. A law counts once. -/
mutual
def uptoBulk {H : Type} : DataW H → Nat
  | .lit (.string bytes) => bytes.length + 1
  | .lit _ => 1
  | .nil => 1
  | .ptr d => uptoBulk d + 1
  | .slice elems spare => uptoBulkAll elems + uptoBulkAll spare + 1
  | .agg parts => uptoBulkAll parts + 1
  | .iface _ d => uptoBulk d + 1
  | .map entries => uptoBulkEntries entries + 1
  | .held _ => 1
def uptoBulkAll {H : Type} : List (DataW H) → Nat
  | [] => 0
  | d :: r => uptoBulk d + uptoBulkAll r
def uptoBulkEntries {H : Type} : List (Lit × DataW H) → Nat
  | [] => 0
  | x :: r => uptoBulkEntry x + uptoBulkEntries r
def uptoBulkEntry {H : Type} : Lit × DataW H → Nat
  | (.string bytes, d) => bytes.length + uptoBulk d + 1
  | (_, d) => uptoBulk d + 1
 end
def uptoSmall : (H : Type) → List (DataW H) → Bool := fun _ ds => decide (uptoBulkAll ds ≤ 1048576)
def OpenSpec.upto (s : _root_.Go.ChangeSpec) : _root_.Go.OpenSpec := { _root_.Go.OpenSpec.ofChange s with cond := some uptoSmall }

/-- 'sealchainlaw11.PackWrites', WHERE WHAT IT READS IS OF BULK AT MOST 1048576: true; the input reads as it did. -/
def packWritesUptoRow : OpenClaim := { program := "ythfdkonhjpdflaagreatdoor", sum := "ebd31d86366ef8efb65190509d0e3bcb0b77c8259ef773a3b2f5ac5355d97467", func := "sealchain/sealchainlaw11.PackWrites", spec := "packWrites", unfollowed := true, recurses := true, named := ["sealchain/pack.fields"], apart := false, laid := [("sealchain/pack.fields", laid_sealchain_pack_fields)], narrowed := true }
def PackWritesUptoSaid : Prop := packWritesUptoRow.holds Tryz.pinned (OpenSpec.upto packWritesSpec)

/-- 'sealchainlaw11.PackReads', WHERE WHAT IT READS IS OF BULK AT MOST 1048576: true; the input reads as it did. -/
def packReadsUptoRow : OpenClaim := { program := "ythfdkonhjpdflaagreatdoor", sum := "ebd31d86366ef8efb65190509d0e3bcb0b77c8259ef773a3b2f5ac5355d97467", func := "sealchain/sealchainlaw11.PackReads", spec := "packReads", unfollowed := true, recurses := true, named := ["sealchain/pack.fields"], apart := false, laid := [("sealchain/pack.fields", laid_sealchain_pack_fields)], narrowed := true }
def PackReadsUptoSaid : Prop := packReadsUptoRow.holds Tryz.pinned (OpenSpec.upto packReadsSpec)

/-- 'sealchainlaw11.PackNames', WHERE WHAT IT READS IS OF BULK AT MOST 1048576: true; the input reads as it did. -/
def packNamesUptoRow : OpenClaim := { program := "ythfdkonhjpdflaagreatdoor", sum := "ebd31d86366ef8efb65190509d0e3bcb0b77c8259ef773a3b2f5ac5355d97467", func := "sealchain/sealchainlaw11.PackNames", spec := "packNames", unfollowed := true, recurses := true, named := ["sealchain/pack.fields"], apart := false, laid := [("sealchain/pack.fields", laid_sealchain_pack_fields)], narrowed := true }
def PackNamesUptoSaid : Prop := packNamesUptoRow.holds Tryz.pinned (OpenSpec.upto packNamesSpec)

end Rows
end Go.Proofs.YthfdkonhjpdflaaGreatDoor
