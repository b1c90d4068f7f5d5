/-
  TABLE, 23: what the act next needs: a variable in a drawn region; a name put into an answer and into a request.
-/
import Derived.Test.YtmlmhnhilemjhaaDoorTB22
namespace Go.Proofs.YtmlmhnhilemjhaaDoor
open Go.RowKit
set_option linter.unusedVariables false
set_option maxRecDepth 100000
set_option linter.unusedSimpArgs false

theorem step_alloc_to {P : Program} (w w' : World) {ops : Array Oper} {o : Oper} {a : Act} {K : Act → World → Prop} {Q : Exit → Act → World → Prop} {E : Prop} (hgd : o.guard = none) (t : TypeId) (ho : o.op = .alloc t)
    (zs : Array Value) (hz : (P.info? t).bind (·.zero) = some (.agg zs)) (hw : w.alloc (.cells zs t) = w') (h : K (a.put o.dst (.pointer (some ⟨w.heap.size, 0, none⟩))) w') :
    if Region.wanted o (yielded ops a.tmps) = true then Oper.wp P o a w K Q else E := by
  subst hw
  rw [if_pos (by simp [Region.wanted, hgd])]
  cases hi : P.info? t with
  | none => rw [hi] at hz; cases hz
  | some i =>
    rw [hi] at hz
    have hz' : i.zero = some (.agg zs) := hz
    unfold Oper.wp execOp
    simp only [ho]
    simpa [Instr.alloc, zeroValue, typeInfo, hi, hz', newVar, newRow, Value.cells, go_sem] using h
theorem afterC_len {w : World} {p : Nat} {s : TS} (h : isT w p s) (t : List UInt8) : (afterC s t).length = 32 := by
  unfold afterC
  cases hn : afterN s t with
  | none => exact nameZ_len
  | some n => exact h.names n (List.mem_of_getElem? (by unfold afterN at hn; exact hn))
theorem putL_mid {l a x b y : List Value} {k : Nat} (hl : l = a ++ (x ++ b)) (hk : a.length = k) (hy : y.length = x.length) : putL l.toArray k y = (a ++ (y ++ b)).toArray := by
  subst hl; subst hk
  apply Array.ext_getElem?
  intro i
  rw [putL_get _ _ _ _ (by simp; omega)]
  by_cases h1 : i < a.length
  · rw [if_neg (by omega), List.getElem?_toArray, List.getElem?_toArray, List.getElem?_append_left h1, List.getElem?_append_left h1]
  · by_cases h2 : i < a.length + y.length
    · rw [if_pos ⟨by omega, h2⟩, List.getElem?_toArray, List.getElem?_append_right (by omega), List.getElem?_append_left (by omega)]
    · rw [if_neg (by omega), List.getElem?_toArray, List.getElem?_toArray, List.getElem?_append_right (by omega), List.getElem?_append_right (by omega), List.getElem?_append_right (by omega), List.getElem?_append_right (by omega), hy]
theorem anL_setName {a : AN} {ev : Value} {n : List UInt8} (h : a.name.length = 32) (hn : n.length = 32) : putL (anL a ev).toArray 5 (nameL n) = (anL { a with name := n } ev).toArray :=
  putL_mid (a := [.int .i64 a.client, .int .i64 a.num, .int .i64 a.code, .int .i64 a.version, .int .i64 a.epoch]) (x := nameL a.name) (b := [ev]) rfl rfl (by rw [nameL_len, nameL_len, h, hn])
theorem rqL_setName {r : RQ} {ev : Value} {n : List UInt8} (h : r.name.length = 32) (hn : n.length = 32) : putL (rqL r ev).toArray 4 (nameL n) = (rqL { r with name := n } ev).toArray :=
  putL_mid (a := [.int .i64 r.client, .int .i64 r.num, .int .i64 r.kind, .int .i64 r.version]) (x := nameL r.name) (b := [ev]) rfl rfl (by rw [nameL_len, nameL_len, h, hn])
end Go.Proofs.YtmlmhnhilemjhaaDoor
