/-
  SCRIB: a slice of bytes that is written over, byte by byte.
-/
import Derived.Test.YtaclpogcedgojaaDoorCopies
import Derived.LoopTactic
namespace Go.Proofs.YtaclpogcedgojaaDoor
open Go.RowKit
set_option linter.unusedVariables false

/-- block g holds n bytes, and more perhaps -/
def bytesRow (w : World) (g n : Nat) : Prop := ∃ cur, rowAt w g 5 cur ∧ ∀ j, j < n → ∃ z : Int, cur[j]? = some (.int .u8 z)
/-- a slice of n bytes that may be written over -/
def scrib (w : World) (A : Option Addr) (n : Nat) : Prop := 0 < n → ∃ g, A = some ⟨g, 0, none⟩ ∧ bytesRow w g n
theorem scrib_of_owns {w : World} {A : Option Addr} {c : Nat} {l : List UInt8} (h : owns w 5 1 (.slice A l.length c) l.length (l.map bv)) : scrib w A l.length := by
  intro hn
  rcases h.2 with ⟨_, h0⟩ | ⟨g, cap, cur, he, hr, h1, h2, h3, h4⟩
  · omega
  · injection he with ha _ _
    refine ⟨g, ha, cur, hr, fun j hj => ?_⟩
    have : (cur.toList.take (l.length * 1))[j]? = (l.map bv)[j]? := by rw [h4]
    rw [List.getElem?_take, if_pos (by omega), List.getElem?_map, List.getElem?_eq_getElem hj] at this
    exact ⟨_, by simpa [bv] using this⟩
theorem bytesRow.set {w : World} {g n : Nat} (h : bytesRow w g n) (k : Nat) (z : Int) : bytesRow (w.setCell ⟨g, k, none⟩ (.int .u8 z)) g n := by
  obtain ⟨cur, hr, hc⟩ := h
  refine ⟨_, hr.set k _, fun j hj => ?_⟩
  obtain ⟨y, hy⟩ := hc j hj
  rw [Array.getElem?_setIfInBounds]
  split
  · subst_vars
    rw [if_pos (by have := (Array.getElem?_eq_some_iff.1 hy).1; assumption)]
    exact ⟨z, rfl⟩
  · exact ⟨y, hy⟩
theorem scrib.keep {S : List Nat} {w w' : World} {A : Option Addr} {n c : Nat} (h : scrib w A n) (hk : keepBut S w w') (hS : ∀ x ∈ homes (.slice A n c), x ∉ S) : scrib w' A n := by
  intro hn
  obtain ⟨g, rfl, cur, hr, hc⟩ := h hn
  exact ⟨g, rfl, cur, hk.row hr (hS g (by simp [homes_some])), hc⟩

/-- the head of a round of writing over -/
def scribRel (wa : World) (A : Option Addr) (n c : Nat) (i : Value) (wr : World) : Prop :=
  ∃ k : Nat, i = .int .i64 k ∧ k ≤ n ∧ keepBut (homes (.slice A n c)) wa wr ∧ scrib wr A n
end Go.Proofs.YtaclpogcedgojaaDoor
