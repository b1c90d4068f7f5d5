/-
  TRIOS: a list of arrays of 3 numbers that came in as an argument.
-/
import Derived.Test.YtkpmlcgbffdloaaDoorOpen
import Derived.Deep.Slices
import Derived.ChangeSame
namespace Go.Proofs.YtkpmlcgbffdloaaDoor
open Go.ChangeShapes Go.WideShapes Go.ChangeAt Go.RowKit
set_option linter.unusedVariables false
set_option maxRecDepth 100000

/-- one of them lies at o of block g -/
def aTrio (w : World) (g o : Nat) : Prop :=
  ∃ x0 x1 x2 : Int, w.cell? ⟨g, o, none⟩ = some (.int .i64 x0) ∧ w.cell? ⟨g, o + 1, none⟩ = some (.int .i64 x1) ∧ w.cell? ⟨g, o + 2, none⟩ = some (.int .i64 x2) ∧ (Lit.int .i64 x0).wf = true ∧ (Lit.int .i64 x1).wf = true ∧ (Lit.int .i64 x2).wf = true
def trios (w : World) (A : Option Addr) (n : Nat) : Prop := 0 < n → ∃ g o, A = some ⟨g, o, none⟩ ∧ g < w.heap.size ∧ ∀ j, j < n → aTrio w g (o + j * 3)
theorem aTrio.keep {w w' : World} {g o : Nat} (h : aTrio w g o) (hg : g < w.heap.size) (hk : keepBut [] w w') : aTrio w' g o := by
  have e := fun o => hk.cell (p := ⟨g, o, none⟩) hg (by simp)
  unfold aTrio at h ⊢
  simpa only [e] using h
theorem trios.keep {w w' : World} {A : Option Addr} {n : Nat} (h : trios w A n) (hk : keepBut [] w w') : trios w' A n := by
  intro hn
  obtain ⟨g, o, h1, h2, h3⟩ := h hn
  exact ⟨g, o, h1, Nat.lt_of_lt_of_le h2 hk.size, fun j hj => (h3 j hj).keep h2 hk⟩
theorem trioCellsInt : Tryd.prog.cellsOf 3 = 1 := by kernel_rfl
theorem trioCells : Tryd.prog.cellsOf 55 = 3 := by kernel_rfl
theorem open_trios {H : Type} {enc : TypeId × Value → H} {W : World} {sp : Nat → Bool} {hd : Bool} {fuel : Nat} {cs : List Value} {x : DataW H × List MemPlace}
    (h : DataW.trod enc Tryd.prog W 0 sp hd fuel 50 cs = some x) :
    ∃ A n c, cs = [.slice A n c] ∧ n ≤ c ∧ c ≤ maxLen ∧ trios W A n := by
  rcases Deep.open_slice Tryd.underlying50 h with ⟨rfl, _⟩ | ⟨a, len, cap, m, n, D, Pl, rfl, hb, hl, hm, hmm, rfl, hx⟩
  · exact ⟨none, 0, 0, rfl, Nat.le_refl _, by simp [maxLen], fun h => absurd h (by omega)⟩
  · refine ⟨some a, len, cap, rfl, hl, hm, fun hn => ?_⟩
    have hlm : len ≤ m := by rw [hmm]; split <;> omega
    obtain ⟨b, o, s⟩ := a
    have hs : s = none := by
      obtain ⟨cs', h1, h2⟩ := hx 0 (by omega)
      rw [trioCells] at h1
      obtain ⟨_, hlen, hcell⟩ := World.cells?_some h1
      have c0 := hcell 0 (by omega)
      rw [List.getElem?_eq_getElem (by omega)] at c0
      have := World.cell?_spot c0
      simpa [Addr.add] using this
    subst hs
    have each : ∀ j, j < len → b < W.heap.size ∧ aTrio W b (o + j * 3) := by
      intro j hj
      obtain ⟨cs', h1, h2⟩ := hx j (by omega)
      rw [trioCells] at h1
      obtain ⟨_, hlen, hcell⟩ := World.cells?_some h1
      obtain ⟨xs, m', _, _, _, hxl, hf⟩ := DataW.trod_array Tryd.underlying55 h2
      have g0 := hf 0 (by omega)
      have g1 := hf 1 (by omega)
      have g2 := hf 2 (by omega)
      rw [trioCellsInt] at g0 g1 g2
      match xs, hxl, cs', hlen with
      | [y0, y1, y2], _, [v0, v1, v2], _ =>
        simp at g0 g1 g2
        obtain ⟨z0, e0, _, w0⟩ := DataW.trod_int Tryd.underlying3 g0
        obtain ⟨z1, e1, _, w1⟩ := DataW.trod_int Tryd.underlying3 g1
        obtain ⟨z2, e2, _, w2⟩ := DataW.trod_int Tryd.underlying3 g2
        simp at e0 e1 e2
        subst e0 e1 e2
        have c0 := hcell 0 (by omega)
        have c1 := hcell 1 (by omega)
        have c2 := hcell 2 (by omega)
        simp only [add_plain] at c0 c1 c2
        have hbs : b < W.heap.size := by simpa using World.block_lt_of_cell? W _ c0
        exact ⟨hbs, z0, z1, z2, by simpa using c0, by simpa using c1, by simpa using c2, w0, w1, w2⟩
    exact ⟨b, o, rfl, (each 0 hn).1, fun j hj => (each j hj).2⟩
end Go.Proofs.YtkpmlcgbffdloaaDoor
