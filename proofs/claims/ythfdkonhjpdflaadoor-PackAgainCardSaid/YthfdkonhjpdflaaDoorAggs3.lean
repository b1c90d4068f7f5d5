/-
  AGGS, 3: a list of cells stored into a row.
-/
import Derived.Test.YthfdkonhjpdflaaDoorAggs2
namespace Go.Proofs.YthfdkonhjpdflaaDoor
open Go.RowKit
set_option linter.unusedVariables false

def putL : Array Value → Nat → List Value → Array Value
  | cs, _, [] => cs
  | cs, o, v :: r => putL (cs.setIfInBounds o v) (o + 1) r
theorem putL_size : ∀ (vs : List Value) (cs : Array Value) (o : Nat), (putL cs o vs).size = cs.size
  | [], _, _ => rfl
  | v :: r, cs, o => by rw [putL, putL_size r]; simp
theorem putL_get : ∀ (vs : List Value) (cs : Array Value) (o i : Nat), o + vs.length ≤ cs.size → (putL cs o vs)[i]? = if o ≤ i ∧ i < o + vs.length then vs[i - o]? else cs[i]?
  | [], cs, o, i, _ => by rw [putL, if_neg (by simp only [List.length_nil]; omega)]
  | v :: r, cs, o, i, h => by
    simp only [List.length_cons] at h
    rw [putL, putL_get r _ _ _ (by simp; omega)]
    by_cases e : i = o
    · subst e
      rw [if_neg (by omega), if_pos (by simp), Array.getElem?_setIfInBounds_self_of_lt (by omega)]
      simp
    · rw [Array.getElem?_setIfInBounds_ne (fun h => e h.symm)]
      by_cases c : o + 1 ≤ i ∧ i < o + 1 + r.length
      · rw [if_pos c, if_pos (by simp only [List.length_cons]; omega), show i - o = (i - (o + 1)) + 1 by omega]
        simp
      · rw [if_neg c, if_neg (by simp only [List.length_cons]; omega)]
theorem putL_all {vs : List Value} {cs : Array Value} (h : vs.length = cs.size) : putL cs 0 vs = vs.toArray := by
  refine Array.ext_getElem? (fun i => ?_)
  rw [putL_get vs cs 0 i (by omega)]
  by_cases c : i < vs.length
  · rw [if_pos (by omega)]; simp
  · rw [if_neg (by omega), Array.getElem?_eq_none (by omega), Array.getElem?_eq_none (by simp; omega)]
theorem rowAt.setL : ∀ {vs : List Value} {w : World} {g o : Nat} {t : TypeId} {cs : Array Value}, rowAt w g t cs → rowAt (w.setCells g o vs) g t (putL cs o vs)
  | [], _, _, _, _, _, h => h
  | v :: r, w, g, o, t, cs, h => by
    rw [World.setCells, putL]
    exact rowAt.setL (h.set o v)
theorem keepBut.setL {S : List Nat} {a : World} : ∀ {vs : List Value} {b : World} {g o : Nat}, keepBut S a b → (g ∈ S ∨ a.heap.size ≤ g) → keepBut S a (b.setCells g o vs)
  | [], _, _, _, h, _ => h
  | v :: r, b, g, o, h, hg => by
    rw [World.setCells]
    exact keepBut.setL (h.setCell ⟨g, o, none⟩ v hg) hg
theorem rowAt.there {w : World} {g : Nat} {t : TypeId} {cs : Array Value} (h : rowAt w g t cs) {o n : Nat} (hn : o + n ≤ cs.size) : w.there g o n := fun j hj =>
  ⟨by rw [h.cell, Array.getElem?_eq_getElem (by omega)]; rfl, h.free _⟩
theorem rowAt.rangeAll {w : World} {g : Nat} {t : TypeId} {l : List Value} (h : rowAt w g t l.toArray) : w.rangeAt g 0 l := h.range (fun j v hv => by simpa using hv)
end Go.Proofs.YthfdkonhjpdflaaDoor
