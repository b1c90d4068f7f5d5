/-
  VIEW: a view abides the turn of a block that holds no cells (an invariant of the caller's over a range function).
-/
import Derived.Test.YtjipokilidhnoaaViewSome
namespace Go.Proofs.Ytjipokilidhnoaa
open Go.RowKit Go.Shelf
set_option linter.unusedVariables false

theorem rowAt.grown {w w' : World} {g : Nat} {t : TypeId} {cs : Array Value} {row : Option Nat} (h : rowAt w g t cs) (hg : w.grownBy w' row) (hr : ∀ r, row = some r → ∃ o : Obj, w.heap[r]? = some o ∧ o.isCells = false) : rowAt w' g t cs := by
  unfold rowAt at h ⊢
  rw [grownBy_keeps_cells hg hr h rfl]
  exact h
theorem owns.grown {w w' : World} {e : TypeId} {sz n : Nat} {v : Value} {xs : List Value} {row : Option Nat} (h : owns w e sz v n xs) (hg : w.grownBy w' row) (hr : ∀ r, row = some r → ∃ o : Obj, w.heap[r]? = some o ∧ o.isCells = false) : owns w' e sz v n xs := by
  refine ⟨h.1, ?_⟩
  rcases h.2 with h2 | ⟨g, cap, cur, e1, hrow, rest⟩
  · exact .inl h2
  · exact .inr ⟨g, cap, cur, e1, hrow.grown hg hr, rest⟩
theorem seen.grown {w w' : World} {A : Option Addr} {g : Nat} {l : List UInt8} {row : Option Nat} (h : seen w A g l) (hg : w.grownBy w' row) (hr : ∀ r, row = some r → ∃ o : Obj, w.heap[r]? = some o ∧ o.isCells = false) : seen w' A g l := by
  intro hl
  obtain ⟨o, e1, e2, e3⟩ := h hl
  exact ⟨o, e1, Nat.lt_of_lt_of_le e2 hg.size, fun j b hb => cell_kept (e3 j b hb) hg hr⟩
theorem heldB.grown {w w' : World} {F : List Nat} {v : Value} {l : List UInt8} {row : Option Nat} (h : heldB w F v l) (hg : w.grownBy w' row) (hr : ∀ r, row = some r → ∃ o : Obj, w.heap[r]? = some o ∧ o.isCells = false) : heldB w' F v l := by
  obtain ⟨A, c, g, h1, h2, h3, h4, h5, h6⟩ := h
  exact ⟨A, c, g, h1, h2, h3, h4, h5.grown hg hr, h6⟩
theorem isV.grown {w w' : World} {p : Nat} {F : List Nat} {l : List VR} {row : Option Nat} (h : isV w p F l) (hg : w.grownBy w' row) (hr : ∀ r, row = some r → ∃ o : Obj, w.heap[r]? = some o ∧ o.isCells = false) : isV w' p F l := by
  obtain ⟨vb, T, C, h, e⟩ := h
  exact ⟨vb, T, C, ⟨h.row.grown hg hr, h.own.grown hg hr, fun t ht => (h.byt t ht).grown hg hr, h.pF, h.vF, h.cF, h.pC, h.vC, fun y hy => Nat.lt_of_lt_of_le (h.lt y hy) hg.size⟩, e⟩
/-- the cells of blocks stay where a block that holds none is turned -/
theorem keepCells.put (Bs : List Nat) (W : World) (l : Nat) (o o' : Obj) (h : W.heap[l]? = some o) (hc : o.isCells = false) : keepCells Bs W (W.putObj l o') := fun b _ x v hv =>
  cell_kept hv (grownBy_putObj' W l o') (fun r e => by cases e; exact ⟨o, h, hc⟩)
end Go.Proofs.Ytjipokilidhnoaa
