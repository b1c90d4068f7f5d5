/-
  INTMAP: a map from ints, whatever its elements are: made, looked into, written.
-/
import Derived.Test.YtbjonlfjfjlelaaAppend
import Derived.Handy
import Derived.MapKept
namespace Go.Proofs.Ytbjonlfjfjlelaa
open Go.RowKit
set_option linter.unusedVariables false

/-- block g is the map of these entries -/
def mapAt (w : World) (g : Nat) (l : List (Int × Value)) : Prop :=
  ∃ (es : Array MapEntry) (clock : Nat), w.heap[g]? = some (.map es clock) ∧ es.toList.map (fun e => (e.key, e.val)) = l.map (fun p => (Value.int .i64 p.1, p.2))

def findI : List (Int × Value) → Int → Option Value
  | [], _ => none
  | p :: r, k => if p.1 = k then some p.2 else findI r k
def putI : List (Int × Value) → Int → Value → List (Int × Value)
  | [], k, v => [(k, v)]
  | p :: r, k, v => if p.1 = k then (k, v) :: r else p :: putI r k v

theorem mapAt.lt {w : World} {g : Nat} {l : List (Int × Value)} (h : mapAt w g l) : g < w.heap.size := by
  obtain ⟨es, c, h1, _⟩ := h
  exact (Array.getElem?_eq_some_iff.1 h1).1
theorem mapAt.keep {S : List Nat} {w w' : World} {g : Nat} {l : List (Int × Value)} (h : mapAt w g l) (hk : keepBut S w w') (hS : g ∉ S) : mapAt w' g l := by
  obtain ⟨es, c, h1, h2⟩ := h
  exact ⟨es, c, (hk.block g (Array.getElem?_eq_some_iff.1 h1).1 hS).trans h1, h2⟩
theorem mapAt.made (w : World) : mapAt (w.alloc (.map #[] 0)) w.heap.size [] := ⟨#[], 0, heap_alloc_new w _, rfl⟩
theorem mapAt.apart {w : World} {g g' : Nat} {l : List (Int × Value)} {t : TypeId} {cs : Array Value} (h : mapAt w g l) (h' : rowAt w g' t cs) : g ≠ g' := by
  rintro rfl
  obtain ⟨es, c, h1, _⟩ := h
  unfold rowAt at h'
  rw [h1] at h'
  cases h'

theorem findNow_int (k : Int) : ∀ (es : List MapEntry) (l : List (Int × Value)) (i : Nat), es.map (fun e => (e.key, e.val)) = l.map (fun p => (Value.int .i64 p.1, p.2)) →
    (findI l k = none ∧ Instr.findNow (.int .i64) (.int .i64 k) es i = some none ∧ putI l k = fun v => l ++ [(k, v)]) ∨
    (∃ (j : Nat) (v : Value), findI l k = some v ∧ Instr.findNow (.int .i64) (.int .i64 k) es i = some (some (i + j, v)) ∧ (es[j]?).map (·.key) = some (.int .i64 k) ∧
      ∀ u, (es.modify j fun e => { e with key := .int .i64 k, val := u }).map (fun e => (e.key, e.val)) = (putI l k u).map (fun p => (Value.int .i64 p.1, p.2)))
  | [], [], i, _ => .inl ⟨rfl, rfl, rfl⟩
  | [], _ :: _, _, h => by cases h
  | _ :: _, [], _, h => by cases h
  | e :: es, p :: l, i, h => by
    simp only [List.map_cons, List.cons.injEq, Prod.mk.injEq] at h
    obtain ⟨⟨hk, hv⟩, hr⟩ := h
    by_cases hp : p.1 = k
    · refine .inr ⟨0, p.2, by simp [findI, hp], ?_, by simp [hk, hp], fun u => ?_⟩
      · simp [Instr.findNow, Instr.sameNow, hk, hp, hv]
      · simp [putI, hp, hr]
    · have hs : Instr.sameNow (.int .i64) (.int .i64 k) e.key = some false := by
        rw [hk]; simp [Instr.sameNow]; exact fun e => hp e.symm
      rcases findNow_int k es l (i + 1) hr with ⟨h1, h2, h3⟩ | ⟨j, v, h1, h2, h3, h4⟩
      · exact .inl ⟨by simp [findI, hp, h1], by simp [Instr.findNow, hs, h2], by funext v; simp [putI, hp, h3]⟩
      · refine .inr ⟨j + 1, v, by simp [findI, hp, h1], ?_, by simpa using h3, fun u => ?_⟩
        · simp [Instr.findNow, hs, h2]; omega
        · simp [putI, hp, hk, hv, h4 u]

theorem run_checkKey_n {P : Program} (w : World) (kt : TypeId) (hkt : P.underlying kt = some (.int .i64)) (b : Bool) (n : Nat) (k : Int) : (Instr.checkKey b (n + 1) kt (.int .i64 k)).run P w = .ok () w := by
  simp [Instr.checkKey, run_underlying hkt]
theorem run_checkKey_int {P : Program} (w : World) (kt : TypeId) (hkt : P.underlying kt = some (.int .i64)) (b : Bool) (k : Int) : (Instr.checkKey b 10000 kt (.int .i64 k)).run P w = .ok () w := run_checkKey_n w kt hkt b 9999 k

section
variable {P : Program} (w : World) (t kt et : TypeId) (ht : P.underlying t = some (.map kt et)) (hkt : P.underlying kt = some (.int .i64))
include ht hkt

theorem run_lookup_int (g : Nat) (l : List (Int × Value)) (h : mapAt w g l) (k : Int) (z : Value) (hz : (zeroValue et).run P w = .ok z w) :
    (Instr.lookup t (.map (some g)) (.int .i64 k) true).run P w = .ok (.tuple #[(findI l k).getD z, .bool (findI l k).isSome]) w := by
  obtain ⟨es, c, h1, h2⟩ := h
  have hc := run_checkKey_int (P := P) w kt hkt es.isEmpty k
  rcases findNow_int k es.toList l 0 h2 with ⟨f1, f2, _⟩ | ⟨j, v, f1, f2, _, _⟩
  · simp [Instr.lookup, run_underlying ht, Go.MapKept.run_getObj_map h1, hc, Instr.findKey, run_underlying hkt, f2, hz, f1]
  · simp [Instr.lookup, run_underlying ht, Go.MapKept.run_getObj_map h1, hc, Instr.findKey, run_underlying hkt, f2, f1]
theorem run_mapUpdate_int (g : Nat) (l : List (Int × Value)) (h : mapAt w g l) (k : Int) (v : Value) :
    ∃ w', (Instr.mapUpdate t (.map (some g)) (.int .i64 k) v).run P w = .ok () w' ∧ mapAt w' g (putI l k v) ∧ keepBut [g] w w' := by
  obtain ⟨es, c, h1, h2⟩ := h
  have hc := run_checkKey_int (P := P) w kt hkt false k
  have hg := (Array.getElem?_eq_some_iff.1 h1).1
  have hkb : ∀ o, keepBut [g] w { w with heap := w.heap.setIfInBounds g o } := fun o => ⟨rfl, rfl, rfl, by simp, fun x hx hS => by
    rw [Array.getElem?_setIfInBounds, if_neg (fun e => hS (by simp [e]))]⟩
  have hat : ∀ es' c', (w.heap.setIfInBounds g (Obj.map es' c'))[g]? = some (.map es' c') := fun es' c' => by
    rw [Array.getElem?_setIfInBounds, if_pos rfl, if_pos hg]
  rcases findNow_int k es.toList l 0 h2 with ⟨f1, f2, f3⟩ | ⟨j, u, f1, f2, f3, f4⟩
  · refine ⟨{ w with heap := w.heap.setIfInBounds g (.map (es.push { key := .int .i64 k, val := v, born := c }) (c + 1)) }, ?_, ⟨_, _, hat _ _, ?_⟩, hkb _⟩
    · simp [Instr.mapUpdate, run_underlying ht, Go.MapKept.run_getObj_map h1, hc, Instr.findKey, run_underlying hkt, f2]
      exact Go.MapKept.run_setObj_map _ h1
    · simp [f3, h2]
  · refine ⟨{ w with heap := w.heap.setIfInBounds g (.map (es.modify j fun e => { e with key := .int .i64 k, val := v }) c) }, ?_, ⟨_, _, hat _ _, ?_⟩, hkb _⟩
    · have h3 : ((es[j]?).map (·.key)).getD (.int .i64 k) = .int .i64 k := by
        have : (es[j]?).map (·.key) = some (.int .i64 k) := by simpa using f3
        rw [this]; rfl
      simp [Instr.mapUpdate, run_underlying ht, Go.MapKept.run_getObj_map h1, hc, Instr.findKey, run_underlying hkt, f2, Instr.keyThatStays, h3, Instr.sameBits]
      exact Go.MapKept.run_setObj_map _ h1
    · simpa using f4 v
end
end Go.Proofs.Ytbjonlfjfjlelaa
