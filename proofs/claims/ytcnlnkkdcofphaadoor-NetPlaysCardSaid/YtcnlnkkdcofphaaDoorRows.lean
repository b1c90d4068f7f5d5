/-
  NARROWER THAN 'FOR EVERY INPUT', by the rows' own cells (each row's printed sentence says how): NetPlays: laid · NetBoxes: laid · NetOrder: laid · NetKeeps: laid · NetTo: laid.
  DERIVED. THE GIVEN ROWS OF THIS SEAT. 5 by the template 'for every input the law returns true; each argument reads behind the call as it read before'; 0 by the template 'total and deterministic' (their statements: YtcnlnkkdcofphaaDoorTotals.lean).
  GIVEN WITH THE SEED: the statements are not yours to turn. If you find one false, say at which input.
  Laid BY PROGRAM, IN A SANDBOX (cutbox-rows.mjs): the forced cells as the released guide's own fill.sh prints them over the translation 91f418f8c556b826… (all of the seat's roots in one cut). By AI agents, Wed Nov 11 2026. No macro, syntax, notation, axiom, sorry.
-/
import Derived.Test.YtcnlnkkdcofphaaDoorChecked
import GoSem.Claim
import GoSem.ClaimJoined
import GoSem.ClaimMapViews
import Derived.JoinedTies
import Derived.KernelRfl
namespace Go.Proofs.YtcnlnkkdcofphaaDoor
/- THE CELL 'sum', in the pinned program and in every row, IS THE sha256 OF THE DUMP (.gsa) THAT YtcnlnkkdcofphaaDoorProg.lean LOADS. Nothing in Lean hashes anything: it is a label: what it is worth is what the hold of that sum in a sandbox is worth. -/
noncomputable def Tryd.pinned : Pinned := { name := "ytcnlnkkdcofphaadoor", sum := "91f418f8c556b82695b277a218e1e34d5685e5dd7207bd38e739e8ef0c61befa", checked := Tryd.checked }
namespace Rows
def none {H : Type} : Left H := { results := [], args := [] }

/- WHAT THE LISTED PACKAGE-LEVEL VARIABLES READ AS WHEN THE CALL BEGINS. Each datum BY PROGRAM (the guide's laid-datum.mjs) off the statement by which the dump's own 'gosem.cut.vars' lays the variable. In a bare row this is a premise. The card (YtcnlnkkdcofphaaDoorCards.lean) ties it to the program's text. -/
def laid_sealchain_pack_fields {H : Type} : DataW H := .agg [.lit (.int .i64 0), .lit (.int .i64 16), .lit (.int .i64 32), .lit (.int .i64 19), .lit (.int .i64 3), .lit (.int .i64 3), .lit (.int .i64 259), .lit (.int .i64 64), .lit (.int .i64 9), .lit (.int .i64 1024), .lit (.int .i64 6), .lit (.int .i64 134), .lit (.int .i64 70), .lit (.int .i64 6), .lit (.int .i64 4)]

/-- 'sealchainlaw12.NetPlays': WHATEVER THE INPUT: true; the input reads as it did. -/
def netPlaysSpec : ChangeSpec := { name := "netPlays", fn := fun _ => fun
  | [d] => { results := [.lit (.bool true)], args := [d] }
  | _ => none }
def netPlaysRow : OpenClaim := { program := "ytcnlnkkdcofphaadoor", sum := "91f418f8c556b82695b277a218e1e34d5685e5dd7207bd38e739e8ef0c61befa", func := "sealchain/sealchainlaw12.NetPlays", spec := "netPlays", unfollowed := true, recurses := true, named := ["sealchain/pack.fields"], apart := false, laid := [("sealchain/pack.fields", laid_sealchain_pack_fields)] }
def NetPlaysSaid : Prop := netPlaysRow.holds Tryd.pinned (OpenSpec.ofChange netPlaysSpec)

/-- ITS FALSE NEIGHBOUR: 'it returns false'. Refute it at one input. -/
def netPlaysWrong : ChangeSpec := { name := "netPlays", fn := fun _ => fun
  | [d] => { results := [.lit (.bool false)], args := [d] }
  | _ => none }
def NetPlaysWrongFalsely : Prop := netPlaysRow.holds Tryd.pinned (OpenSpec.ofChange netPlaysWrong)

/-- 'sealchainlaw12.NetBoxes': WHATEVER THE INPUT: true; the input reads as it did. -/
def netBoxesSpec : ChangeSpec := { name := "netBoxes", fn := fun _ => fun
  | [d1, d2] => { results := [.lit (.bool true)], args := [d1, d2] }
  | _ => none }
def netBoxesRow : OpenClaim := { program := "ytcnlnkkdcofphaadoor", sum := "91f418f8c556b82695b277a218e1e34d5685e5dd7207bd38e739e8ef0c61befa", func := "sealchain/sealchainlaw12.NetBoxes", spec := "netBoxes", unfollowed := true, recurses := true, named := ["sealchain/pack.fields"], apart := false, laid := [("sealchain/pack.fields", laid_sealchain_pack_fields)] }
def NetBoxesSaid : Prop := netBoxesRow.holds Tryd.pinned (OpenSpec.ofChange netBoxesSpec)

/-- ITS FALSE NEIGHBOUR: 'it returns false'. Refute it at one input. -/
def netBoxesWrong : ChangeSpec := { name := "netBoxes", fn := fun _ => fun
  | [d1, d2] => { results := [.lit (.bool false)], args := [d1, d2] }
  | _ => none }
def NetBoxesWrongFalsely : Prop := netBoxesRow.holds Tryd.pinned (OpenSpec.ofChange netBoxesWrong)

/-- 'sealchainlaw12.NetOrder': WHATEVER THE INPUT: true; the input reads as it did. -/
def netOrderSpec : ChangeSpec := { name := "netOrder", fn := fun _ => fun
  | [d1, d2, d3] => { results := [.lit (.bool true)], args := [d1, d2, d3] }
  | _ => none }
def netOrderRow : OpenClaim := { program := "ytcnlnkkdcofphaadoor", sum := "91f418f8c556b82695b277a218e1e34d5685e5dd7207bd38e739e8ef0c61befa", func := "sealchain/sealchainlaw12.NetOrder", spec := "netOrder", unfollowed := true, recurses := true, named := ["sealchain/pack.fields"], apart := false, laid := [("sealchain/pack.fields", laid_sealchain_pack_fields)] }
def NetOrderSaid : Prop := netOrderRow.holds Tryd.pinned (OpenSpec.ofChange netOrderSpec)

/-- ITS FALSE NEIGHBOUR: 'it returns false'. Refute it at one input. -/
def netOrderWrong : ChangeSpec := { name := "netOrder", fn := fun _ => fun
  | [d1, d2, d3] => { results := [.lit (.bool false)], args := [d1, d2, d3] }
  | _ => none }
def NetOrderWrongFalsely : Prop := netOrderRow.holds Tryd.pinned (OpenSpec.ofChange netOrderWrong)

/-- 'sealchainlaw12.NetKeeps': WHATEVER THE INPUT: true; the input reads as it did. -/
def netKeepsSpec : ChangeSpec := { name := "netKeeps", fn := fun _ => fun
  | [d] => { results := [.lit (.bool true)], args := [d] }
  | _ => none }
def netKeepsRow : OpenClaim := { program := "ytcnlnkkdcofphaadoor", sum := "91f418f8c556b82695b277a218e1e34d5685e5dd7207bd38e739e8ef0c61befa", func := "sealchain/sealchainlaw12.NetKeeps", spec := "netKeeps", unfollowed := true, recurses := true, named := ["sealchain/pack.fields"], apart := false, laid := [("sealchain/pack.fields", laid_sealchain_pack_fields)] }
def NetKeepsSaid : Prop := netKeepsRow.holds Tryd.pinned (OpenSpec.ofChange netKeepsSpec)

/-- ITS FALSE NEIGHBOUR: 'it returns false'. Refute it at one input. -/
def netKeepsWrong : ChangeSpec := { name := "netKeeps", fn := fun _ => fun
  | [d] => { results := [.lit (.bool false)], args := [d] }
  | _ => none }
def NetKeepsWrongFalsely : Prop := netKeepsRow.holds Tryd.pinned (OpenSpec.ofChange netKeepsWrong)

/-- 'sealchainlaw12.NetTo': WHATEVER THE INPUT: true; the input reads as it did. -/
def netToSpec : ChangeSpec := { name := "netTo", fn := fun _ => fun
  | [d] => { results := [.lit (.bool true)], args := [d] }
  | _ => none }
def netToRow : OpenClaim := { program := "ytcnlnkkdcofphaadoor", sum := "91f418f8c556b82695b277a218e1e34d5685e5dd7207bd38e739e8ef0c61befa", func := "sealchain/sealchainlaw12.NetTo", spec := "netTo", unfollowed := true, recurses := true, named := ["sealchain/pack.fields"], apart := false, laid := [("sealchain/pack.fields", laid_sealchain_pack_fields)] }
def NetToSaid : Prop := netToRow.holds Tryd.pinned (OpenSpec.ofChange netToSpec)

/-- ITS FALSE NEIGHBOUR: 'it returns false'. Refute it at one input. -/
def netToWrong : ChangeSpec := { name := "netTo", fn := fun _ => fun
  | [d] => { results := [.lit (.bool false)], args := [d] }
  | _ => none }
def NetToWrongFalsely : Prop := netToRow.holds Tryd.pinned (OpenSpec.ofChange netToWrong)

/- THE SECOND FORM. 'bulk': how many values and letters a reading holds, each counted each time it is reached (what is shared counts as often as it is met; a slice's spare places count too). A statement '..UptoSaid' is the law's where the arguments, and the package variables that the reading takes, are together of bulk at most 1048576: NARROWER than '..Said'. Prove '..Said' where nothing that the law and all that it calls make is longer than what came in: it says more and counts as full. Else prove '..UptoSaid'. A law counts once. -/
mutual
def uptoBulk {H : Type} : DataW H → Nat
  | .lit (.string bytes) => bytes.length + 1
  | .lit _ => 1
  | .nil => 1
  | .ptr d => uptoBulk d + 1
  | .slice elems spare => uptoBulkAll elems + uptoBulkAll spare + 1
  | .agg parts => uptoBulkAll parts + 1
  | .iface _ d => uptoBulk d + 1
  | .map entries => uptoBulkEntries entries + 1
  | .held _ => 1
def uptoBulkAll {H : Type} : List (DataW H) → Nat
  | [] => 0
  | d :: r => uptoBulk d + uptoBulkAll r
def uptoBulkEntries {H : Type} : List (Lit × DataW H) → Nat
  | [] => 0
  | x :: r => uptoBulkEntry x + uptoBulkEntries r
def uptoBulkEntry {H : Type} : Lit × DataW H → Nat
  | (.string bytes, d) => bytes.length + uptoBulk d + 1
  | (_, d) => uptoBulk d + 1
 end
def uptoSmall : (H : Type) → List (DataW H) → Bool := fun _ ds => decide (uptoBulkAll ds ≤ 1048576)
def OpenSpec.upto (s : _root_.Go.ChangeSpec) : _root_.Go.OpenSpec := { _root_.Go.OpenSpec.ofChange s with cond := some uptoSmall }

/-- 'sealchainlaw12.NetPlays', WHERE WHAT IT READS IS OF BULK AT MOST 1048576: true; the input reads as it did. -/
def netPlaysUptoRow : OpenClaim := { program := "ytcnlnkkdcofphaadoor", sum := "91f418f8c556b82695b277a218e1e34d5685e5dd7207bd38e739e8ef0c61befa", func := "sealchain/sealchainlaw12.NetPlays", spec := "netPlays", unfollowed := true, recurses := true, named := ["sealchain/pack.fields"], apart := false, laid := [("sealchain/pack.fields", laid_sealchain_pack_fields)], narrowed := true }
def NetPlaysUptoSaid : Prop := netPlaysUptoRow.holds Tryd.pinned (OpenSpec.upto netPlaysSpec)

/-- 'sealchainlaw12.NetBoxes', WHERE WHAT IT READS IS OF BULK AT MOST 1048576: true; the input reads as it did. -/
def netBoxesUptoRow : OpenClaim := { program := "ytcnlnkkdcofphaadoor", sum := "91f418f8c556b82695b277a218e1e34d5685e5dd7207bd38e739e8ef0c61befa", func := "sealchain/sealchainlaw12.NetBoxes", spec := "netBoxes", unfollowed := true, recurses := true, named := ["sealchain/pack.fields"], apart := false, laid := [("sealchain/pack.fields", laid_sealchain_pack_fields)], narrowed := true }
def NetBoxesUptoSaid : Prop := netBoxesUptoRow.holds Tryd.pinned (OpenSpec.upto netBoxesSpec)

/-- 'sealchainlaw12.NetOrder', WHERE WHAT IT READS IS OF BULK AT MOST 1048576: true; the input reads as it did. -/
def netOrderUptoRow : OpenClaim := { program := "ytcnlnkkdcofphaadoor", sum := "91f418f8c556b82695b277a218e1e34d5685e5dd7207bd38e739e8ef0c61befa", func := "sealchain/sealchainlaw12.NetOrder", spec := "netOrder", unfollowed := true, recurses := true, named := ["sealchain/pack.fields"], apart := false, laid := [("sealchain/pack.fields", laid_sealchain_pack_fields)], narrowed := true }
def NetOrderUptoSaid : Prop := netOrderUptoRow.holds Tryd.pinned (OpenSpec.upto netOrderSpec)

/-- 'sealchainlaw12.NetKeeps', WHERE WHAT IT READS IS OF BULK AT MOST 1048576: true; the input reads as it did. -/
def netKeepsUptoRow : OpenClaim := { program := "ytcnlnkkdcofphaadoor", sum := "91f418f8c556b82695b277a218e1e34d5685e5dd7207bd38e739e8ef0c61befa", func := "sealchain/sealchainlaw12.NetKeeps", spec := "netKeeps", unfollowed := true, recurses := true, named := ["sealchain/pack.fields"], apart := false, laid := [("sealchain/pack.fields", laid_sealchain_pack_fields)], narrowed := true }
def NetKeepsUptoSaid : Prop := netKeepsUptoRow.holds Tryd.pinned (OpenSpec.upto netKeepsSpec)

/-- 'sealchainlaw12.NetTo', WHERE WHAT IT READS IS OF BULK AT MOST 1048576: true; the input reads as it did. -/
def netToUptoRow : OpenClaim := { program := "ytcnlnkkdcofphaadoor", sum := "91f418f8c556b82695b277a218e1e34d5685e5dd7207bd38e739e8ef0c61befa", func := "sealchain/sealchainlaw12.NetTo", spec := "netTo", unfollowed := true, recurses := true, named := ["sealchain/pack.fields"], apart := false, laid := [("sealchain/pack.fields", laid_sealchain_pack_fields)], narrowed := true }
def NetToUptoSaid : Prop := netToUptoRow.holds Tryd.pinned (OpenSpec.upto netToSpec)

end Rows
end Go.Proofs.YtcnlnkkdcofphaaDoor
