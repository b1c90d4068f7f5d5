/-
  SESSPLAYS, S: cells of a packet set.
-/
import Derived.Test.YtkpmlcgbffdloaaDoorSPlay15
namespace Go.Proofs.YtkpmlcgbffdloaaDoor
open Go.RowKit
set_option linter.unusedVariables false
set_option maxRecDepth 100000
set_option linter.unusedSimpArgs false

theorem pkL_set81 {p : PK} {ev av cv vv bw : Value} (h1 : p.req.name.length = 32) (h2 : p.ans.name.length = 32) (v : Value) : (pkL p ev av cv vv bw).set 81 v = pkL p ev v cv vv bw := by
  have e1 : (rqL p.req ev).length = 37 := rqL_len h1
  have e2 : (anL p.ans av).length = 38 := anL_len h2
  unfold pkL
  simp only [List.set_cons_succ]
  rw [List.set_append_right _ _ (by omega), e1, List.set_append_left _ _ (by omega), anL_set h2]
theorem pkL_set84 {p : PK} {ev av cv vv bw : Value} (h1 : p.req.name.length = 32) (h2 : p.ans.name.length = 32) (v : Value) : (pkL p ev av cv vv bw).set 84 v = pkL p ev av v vv bw := by
  have e1 : (rqL p.req ev).length = 37 := rqL_len h1
  have e2 : (anL p.ans av).length = 38 := anL_len h2
  unfold pkL
  simp only [List.set_cons_succ]
  rw [List.set_append_right _ _ (by omega), e1, List.set_append_right _ _ (by omega), e2]
  rfl
theorem set_same {l : List Value} {i : Nat} {v : Value} (h : l[i]? = some v) : l.set i v = l := by
  obtain ⟨hi, rfl⟩ := List.getElem?_eq_some_iff.1 h
  exact List.set_getElem_self hi
end Go.Proofs.YtkpmlcgbffdloaaDoor
