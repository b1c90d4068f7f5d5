/-
  VIEW: what makes the iterator; the three filters.
-/
import Derived.Test.YtjipokilidhnoaaViewEach
namespace Go.Proofs.Ytjipokilidhnoaa
open Go.RowKit Go.Shelf
set_option linter.unusedVariables false
set_option maxRecDepth 100000
attribute [local go_sem] Oper.semAt_some

set_option maxHeartbeats 1000000 in
theorem eachR_in (F : Fence) (n : Nat) (h43 : F.fn 43) (hro : F.round = none) (p0 : Option Addr) (fv : Value) (w : World) (hfv : fv.cells = #[fv]) :
    CallsIn F n Try.prog 43 #[.pointer p0, .agg #[fv]] w fun e w' =>
      e = .returned (.func (.func 60) #[] #[.pointer (some ⟨w.heap.size, 0, none⟩), .pointer (some ⟨w.heap.size + 1, 0, none⟩)]) ∧ keepBut [] w w' ∧
      w'.cell? ⟨w.heap.size, 0, none⟩ = some (.pointer p0) ∧ w'.cell? ⟨w.heap.size + 1, 0, none⟩ = some fv := by
  refine callsIn_of_wp Try.func43 rfl h43 ?_ hro
  simp only [Try.ntmps43, List.size_toArray, List.length_cons, List.length_nil, Nat.reduceAdd, Nat.reduceSub, Array.replicate_succ, Array.replicate_zero, List.push_toArray, List.append_toArray, List.nil_append, List.cons_append]
  gi_wp2
  go_ret
  refine ⟨rfl, ((keepBut.refl [] w).alloc _).alloc _, ?_, ?_⟩
  · exact (((keepBut.refl [] _).alloc _).row (rowAt.new w _ _) (by simp)).cell 0
  · have r := fun (a b : Obj) (t : TypeId) (cs : Array Value) => rowAt.new (w.alloc a) t cs
    simp only [World.size_alloc] at r
    exact (r _ (.cells #[] 0) _ _).cell 0
set_option maxHeartbeats 1000000 in
theorem nodeF_in (F : Fence) (n : Nat) (h41 : F.fn 41) (hro : F.round = none) (X : Nat) (m s nd kd : Int) (A : Option Addr) (l c : Nat) (W : World) (hX : W.cell? ⟨X, 0, none⟩ = some (.int .i64 m)) :
    CallsIn F n Try.prog 41 #[.agg #[.int .i64 s, .int .i64 nd, .int .i64 kd, .slice A l c], .pointer (some ⟨X, 0, none⟩)] W fun e W' => e = .returned (.bool (nd == m)) ∧ keepBut [] W W' := by
  have ka := (keepBut.refl [] W).alloc (.cells #[.int .i64 s, .int .i64 nd, .int .i64 kd, .slice A l c] 46)
  have hX2 := (ka.cell (p := ⟨X, 0, none⟩) (World.block_lt_of_cell? W _ hX) (by simp)).trans hX
  have HK := Lib.hid ka
  clear ka
  refine callsIn_of_wp Try.func41 rfl h41 ?_ hro
  simp only [Try.ntmps41, List.size_toArray, List.length_cons, List.length_nil, Nat.reduceAdd, Nat.reduceSub, Array.replicate_succ, Array.replicate_zero, List.push_toArray, List.append_toArray, List.nil_append, List.cons_append]
  gi_wp2
  go_ret
  exact ⟨rfl, HK.out⟩
set_option maxHeartbeats 1000000 in
theorem manyF_in (F : Fence) (n : Nat) (h44 : F.fn 44) (hro : F.round = none) (X : Nat) (m s nd kd : Int) (A : Option Addr) (l c : Nat) (W : World) (hX : W.cell? ⟨X, 0, none⟩ = some (.int .i64 m)) :
    CallsIn F n Try.prog 44 #[.agg #[.int .i64 s, .int .i64 nd, .int .i64 kd, .slice A l c], .pointer (some ⟨X, 0, none⟩)] W fun e W' => e = .returned (.bool (nd == m)) ∧ keepBut [] W W' := by
  have ka := (keepBut.refl [] W).alloc (.cells #[.int .i64 s, .int .i64 nd, .int .i64 kd, .slice A l c] 46)
  have hX2 := (ka.cell (p := ⟨X, 0, none⟩) (World.block_lt_of_cell? W _ hX) (by simp)).trans hX
  have HK := Lib.hid ka
  clear ka
  refine callsIn_of_wp Try.func44 rfl h44 ?_ hro
  simp only [Try.ntmps44, List.size_toArray, List.length_cons, List.length_nil, Nat.reduceAdd, Nat.reduceSub, Array.replicate_succ, Array.replicate_zero, List.push_toArray, List.append_toArray, List.nil_append, List.cons_append]
  gi_wp2
  go_ret
  exact ⟨rfl, HK.out⟩
set_option maxHeartbeats 1000000 in
theorem untilF_in (F : Fence) (n : Nat) (h45 : F.fn 45) (hro : F.round = none) (X : Nat) (m s nd kd : Int) (A : Option Addr) (l c : Nat) (W : World) (hX : W.cell? ⟨X, 0, none⟩ = some (.int .i64 m)) :
    CallsIn F n Try.prog 45 #[.agg #[.int .i64 s, .int .i64 nd, .int .i64 kd, .slice A l c], .pointer (some ⟨X, 0, none⟩)] W fun e W' => e = .returned (.bool (decide (s ≤ m))) ∧ keepBut [] W W' := by
  have ka := (keepBut.refl [] W).alloc (.cells #[.int .i64 s, .int .i64 nd, .int .i64 kd, .slice A l c] 46)
  have hX2 := (ka.cell (p := ⟨X, 0, none⟩) (World.block_lt_of_cell? W _ hX) (by simp)).trans hX
  have HK := Lib.hid ka
  clear ka
  refine callsIn_of_wp Try.func45 rfl h45 ?_ hro
  simp only [Try.ntmps45, List.size_toArray, List.length_cons, List.length_nil, Nat.reduceAdd, Nat.reduceSub, Array.replicate_succ, Array.replicate_zero, List.push_toArray, List.append_toArray, List.nil_append, List.cons_append]
  gi_wp2
  go_ret
  exact ⟨rfl, HK.out⟩
end Go.Proofs.Ytjipokilidhnoaa
