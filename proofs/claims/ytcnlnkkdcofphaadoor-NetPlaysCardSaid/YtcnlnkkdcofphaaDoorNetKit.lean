/-
  NETKIT: rows that are stored whole, results in a block, the packet of zeros: what Pack's later texts have, for a seat without package num.
-/
import Derived.Test.YtcnlnkkdcofphaaDoorNet2
import Derived.Laws.ResultCell
namespace Go.Proofs.YtcnlnkkdcofphaaDoor
open Go.RowKit
set_option linter.unusedVariables false
set_option maxRecDepth 100000
set_option linter.unusedSimpArgs false

theorem wpList_alloc_to {P : Program} (w w' : World) {ops : Array Oper} {rest : List Oper} {o : Oper} {a : Act} {Q : Exit → Act → World → Prop} (hgd : o.guard = none) (t : TypeId) (ho : o.op = .alloc t)
    (zs : Array Value) (hz : (P.info? t).bind (·.zero) = some (.agg zs)) (hw : w.alloc (.cells zs t) = w') (h : wpList P ops Q rest (a.put o.dst (.pointer (some ⟨w.heap.size, 0, none⟩))) w') : wpList P ops Q (o :: rest) a w := by
  subst hw
  cases hi : P.info? t with
  | none => rw [hi] at hz; cases hz
  | some i =>
    rw [hi] at hz
    have hz' : i.zero = some (.agg zs) := hz
    refine wpList_plain hgd fun K hK => ?_
    have hK' := hK _ _ h
    unfold Oper.wp execOp
    simp only [ho]
    simpa [Instr.alloc, zeroValue, typeInfo, hi, hz', newVar, newRow, Value.cells, go_sem] using hK'
theorem results_row_tmp {P : Program} {fn : Func} {p u : Tmp} {ty : TypeId} (h : fn.results = #[.cell p ty, .tmp u]) (tmps : Array Value) (w : World) (g : Nat) (t : TypeId) (cs : Array Value) (fr : Nat × Nat) (d : TypeDesc)
    (hp : tmps.getD p undef = .pointer (some ⟨g, 0, none⟩)) (hg : w.heap[g]? = some (.cells cs t fr))
    (hu : P.underlying ty = some d) (hd : (match d with | .struct _ | .array _ _ => true | _ => false) = true) (hi : (P.info? ty).map (·.size) = some cs.size) :
    (results fn tmps).run P w = .ok (.tuple #[.agg cs, tmps.getD u undef]) w := by
  rw [results_cell_tmp h, hp]
  simp [asAddr, run_loadVar_row w g t ty cs fr d hg hu hd hi]
def pkZero : PK := ⟨0, 0, 0, 0, 0, 0, false, rqZero, anZero, cfZero, [], []⟩
theorem rqZero_name : rqZero.name.length = 32 := by rw [show rqZero.name = List.replicate 32 0 from rfl, List.length_replicate]
theorem anZero_name : anZero.name.length = 32 := by rw [show anZero.name = List.replicate 32 0 from rfl, List.length_replicate]
theorem zv_pk : (Tryd.prog.info? 40).bind (·.zero) = some (.agg (pkL pkZero nilV nilV nilV nilV nilV).toArray) := by kernel_rfl
theorem pkZ_len : (pkL pkZero nilV nilV nilV nilV nilV).length = 87 := pkL_len rqZero_name anZero_name
/-- a row that is stored whole into a block that was just made -/
theorem storedP {w : World} {t : TypeId} {Z X : List Value} (h : X.length = Z.length) :
    rowAt ((w.alloc (.cells Z.toArray t)).setCells w.heap.size 0 X) w.heap.size t X.toArray ∧ keepBut [] w ((w.alloc (.cells Z.toArray t)).setCells w.heap.size 0 X) := by
  have r := (rowAt.new w t Z.toArray).setL (vs := X) (o := 0)
  rw [putL_all (by rw [List.size_toArray]; exact h)] at r
  exact ⟨r, ((keepBut.refl [] w).alloc _).setL (.inr (Nat.le_refl _))⟩
theorem there_newP {w : World} {t : TypeId} {Z X : List Value} (h : X.length = Z.length) : (w.alloc (.cells Z.toArray t)).there w.heap.size 0 X.toArray.size := (rowAt.new w t Z.toArray).there (by simp only [List.size_toArray]; omega)
theorem run_buildPk (w : World) : (Instr.build 40 #[]).run Tryd.prog w = .ok (.agg (pkL pkZero nilV nilV nilV nilV nilV).toArray) w :=
  run_build w 40 #[] _ (by kernel_rfl)
theorem pkZero_val (w : World) (F : List Nat) : pkV w F pkZero nilV nilV nilV nilV nilV := ⟨rqZero_name, anZero_name, bytesV.nil _ _, bytesV.nil _ _, intsV.nil _ _, votesV.nil _ _, bytesV.nil _ _⟩
end Go.Proofs.YtcnlnkkdcofphaaDoor
