/-
  SESSONCE: the packets with an answer.
-/
import Derived.Test.YtkpmlcgbffdloaaDoorSessAgain
import Derived.Test.YtkpmlcgbffdloaaDoorSessOncePure
namespace Go.Proofs.YtkpmlcgbffdloaaDoor
open Go.RowKit
set_option linter.unusedVariables false
set_option maxRecDepth 100000
set_option linter.unusedSimpArgs false

theorem step_alloc_to {P : Program} (w w' : World) {ops : Array Oper} {o : Oper} {a : Act} {K : Act → World → Prop} {Q : Exit → Act → World → Prop} {E : Prop} (hgd : o.guard = none) (t : TypeId) (ho : o.op = .alloc t)
    (zs : Array Value) (hz : (P.info? t).bind (·.zero) = some (.agg zs)) (hw : w.alloc (.cells zs t) = w') (h : K (a.put o.dst (.pointer (some ⟨w.heap.size, 0, none⟩))) w') : if Region.wanted o (yielded ops a.tmps) = true then Oper.wp P o a w K Q else E := by
  subst hw
  rw [if_pos (by simp [Region.wanted, hgd])]
  cases hi : P.info? t with
  | none => rw [hi] at hz; cases hz
  | some i =>
    rw [hi] at hz
    have hz' : i.zero = some (.agg zs) := hz
    unfold Oper.wp execOp
    simp only [ho]
    simpa [Instr.alloc, zeroValue, typeInfo, hi, hz', newVar, newRow, Value.cells, go_sem] using h
theorem build_anK (c n cd v : Int) : Tryd.prog.built 39 [(0, .int .i64 c), (1, .int .i64 n), (2, .int .i64 cd), (3, .int .i64 v)] = some (anL (anK c n cd v) nilV).toArray := by kernel_rfl
theorem anP_val (f c n cd v : Int) (w : World) : pkV w [] (anP f c n cd v) nilV nilV nilV nilV nilV :=
  ⟨rqZero_name, by show (List.replicate 32 (0 : UInt8)).length = 32; rw [List.length_replicate], bytesV.nil _ _, bytesV.nil _ _, intsV.nil _ _, votesV.nil _ _, bytesV.nil _ _⟩
theorem anK_name (c n cd v : Int) : (anK c n cd v).name.length = 32 := by show (List.replicate 32 (0 : UInt8)).length = 32; rw [List.length_replicate]
theorem anPCells (f c n cd v : Int) (N : List Value) (hN : anL (anK c n cd v) nilV = N) :
    List.foldl (fun (cs : Array Value) (x : Value × Nat) => cs.setIfInBounds (44 + x.snd) x.fst) (((Tryd.zeroCells44.setIfInBounds 0 (.int .i64 2)).setIfInBounds 1 (.int .i64 f)).setIfInBounds 2 (.int .i64 22)) N.zipIdx = (pkL (anP f c n cd v) nilV nilV nilV nilV nilV).toArray := by
  have h0 : (((Tryd.zeroCells44.setIfInBounds 0 (.int .i64 2)).setIfInBounds 1 (.int .i64 f)).setIfInBounds 2 (.int .i64 22)) = (([Value.int .i64 2, Value.int .i64 f, Value.int .i64 22, Value.int .i64 0, Value.int .i64 0, Value.int .i64 0, Value.bool false] ++ rqL rqZero nilV) ++ (anL anZero nilV ++ (cfL cfZero nilV ++ [nilV, nilV]))).toArray := by kernel_rfl
  have e1 : N.length = 38 := by rw [← hN]; exact anL_len (anK_name c n cd v)
  have hr : pkL (anP f c n cd v) nilV nilV nilV nilV nilV = ([Value.int .i64 2, Value.int .i64 f, Value.int .i64 22, Value.int .i64 0, Value.int .i64 0, Value.int .i64 0, Value.bool false] ++ rqL rqZero nilV) ++ (N ++ (cfL cfZero nilV ++ [nilV, nilV])) := by rw [← hN]; simp [pkL, anP]
  have el : ([Value.int .i64 2, Value.int .i64 f, Value.int .i64 22, Value.int .i64 0, Value.int .i64 0, Value.int .i64 0, Value.bool false] ++ rqL rqZero nilV : List Value).length = 44 := by rw [List.length_append, rqZ_len]; rfl
  have p4 := putL_mid ([Value.int .i64 2, Value.int .i64 f, Value.int .i64 22, Value.int .i64 0, Value.int .i64 0, Value.int .i64 0, Value.bool false] ++ rqL rqZero nilV) (anL anZero nilV) N (cfL cfZero nilV ++ [nilV, nilV]) (by rw [e1, anZ_len])
  rw [el] at p4
  rw [h0, hr, ← p4]
  exact fold_putL N 0 44 _
end Go.Proofs.YtkpmlcgbffdloaaDoor
