/-
  SESSSTRAY: the packets, and that they are nothing to a session.
-/
import Derived.Test.YtkpmlcgbffdloaaDoorSessOnceKit
namespace Go.Proofs.YtkpmlcgbffdloaaDoor
open Go.RowKit
set_option linter.unusedVariables false
set_option maxRecDepth 100000
set_option linter.unusedSimpArgs false

def stA : AN := ⟨2, 1, 0, 0, 0, List.replicate 32 0, []⟩
def stP (kd dst num : Int) : PK := ⟨kd, 0, dst, num, 0, 0, false, getR 3, stA, ⟨5, 0, [10]⟩, [], []⟩
theorem stP_val {w : World} {F : List Nat} {v : Value} (kd dst num : Int) (h : intsV w F v [10]) : pkV w F (stP kd dst num) nilV nilV v nilV nilV :=
  ⟨(getR_val w [] 3).1, by show (List.replicate 32 (0 : UInt8)).length = 32; rw [List.length_replicate], bytesV.nil _ _, bytesV.nil _ _, h, votesV.nil _ _, bytesV.nil _ _⟩
theorem build_stP (kd dst num : Int) (g : Nat) : Tryd.prog.built 44 [(0, .int .i64 kd), (2, .int .i64 dst), (9, .agg (cfL ⟨5, 0, [10]⟩ (.slice (some ⟨g, 0, none⟩) 1 1)).toArray), (8, .agg (anL stA nilV).toArray), (7, .agg (rqL (getR 3) nilV).toArray), (3, .int .i64 num)] = some (pkL (stP kd dst num) nilV nilV (.slice (some ⟨g, 0, none⟩) 1 1) nilV nilV).toArray := by kernel_rfl
theorem build_stA : Tryd.prog.built 39 [(0, .int .i64 2), (1, .int .i64 1)] = some (anL stA nilV).toArray := by kernel_rfl
theorem build_stCf (g : Nat) : Tryd.prog.built 41 [(0, .int .i64 5), (2, .slice (some ⟨g, 0, none⟩) 1 1)] = some (cfL ⟨5, 0, [10]⟩ (.slice (some ⟨g, 0, none⟩) 1 1)).toArray := by kernel_rfl
theorem st_take (l m : Int) (k : Nat) (kd dst num : Int) (h : ¬ (dst = 22 ∧ (kd = 7 ∨ kd = 2))) : (agS l m k false).takeP (stP kd dst num) = ((anZero, false), agS l m k false) := by
  unfold SS.takeP
  by_cases h1 : (stP kd dst num).dst = 20 + (agS l m k false).client
  · rw [if_pos h1]
    have hd : dst = 22 := h1
    rw [if_neg (show ¬ (stP kd dst num).kind = 7 from fun e => h ⟨hd, .inl e⟩), if_neg (show ¬ (stP kd dst num).kind = 2 from fun e => h ⟨hd, .inr e⟩)]
  · rw [if_neg h1]
end Go.Proofs.YtkpmlcgbffdloaaDoor
