/-
  SESS: what the listed table gives the walks; a start at which it is met.
-/
import Derived.Test.YtkpmlcgbffdloaaDoorSess8
import Derived.ProofKit
import Derived.LaidMore
import Derived.OpenShut
import Derived.Stop.Joined
namespace Go.Proofs.YtkpmlcgbffdloaaDoor
open Go.ChangeShapes Go.WideShapes Go.ChangeAt Go.WideMaps Go.WideElems Go.RowKit
set_option linter.unusedVariables false

abbrev laidL : List (String × DataW Unit) := [("sealchain/seal.sizes", Rows.laid_sealchain_seal_sizes)]
theorem gSizes : Tryd.prog.globalNamed "sealchain/seal.sizes" = some 0 := by kernel_rfl
theorem tSizes : (Tryd.prog.globals[0]?).map (·.type) = some 55 := by kernel_rfl
theorem cInt : Tryd.prog.cellsOf 3 = 1 := by kernel_rfl

theorem door_met (os : Os) (args : Array Value) : laidMetH Tryd.prog laidL ((World.doorLaid Tryd.prog 400 os).forCall (fun _ _ => 0) ⟨#[], args, []⟩).memory :=
  laidMetH_of_parts3 (fuel := 8) (laidMet_of_run' 8 (by kernel_rfl) (by kernel_rfl)) (by kernel_rfl) (by kernel_rfl)

theorem sizes_of_laid {W : World} (h : laidMetH Tryd.prog laidL W) : sizesAt W := by
  rw [MakeChecks.laidMetH_plain _ _ _ (by kernel_rfl)] at h
  obtain ⟨ps, ⟨g0, t0, cs0, f0, p0, q0, hg0, ht0, hv0, hd0, _⟩, _⟩ := h
  obtain rfl := Option.some.inj (gSizes.symm.trans hg0)
  obtain rfl := Option.some.inj (tSizes.symm.trans ht0)
  obtain ⟨xs, m1, rfl, hx1, hlen, hn3, hel⟩ := DataW.trod_array Tryd.underlying55 hd0
  have h0 := hel 0 (by decide)
  have h1 := hel 1 (by decide)
  have h2 := hel 2 (by decide)
  rw [cInt] at h0 h1 h2
  have e0 := World.var?_cell hg0 hv0 0
  have e1 := World.var?_cell hg0 hv0 1
  have e2 := World.var?_cell hg0 hv0 2
  simp only [Prod.mk.injEq, Rows.laid_sealchain_seal_sizes, DataW.agg.injEq] at hx1
  obtain ⟨l1⟩ := cs0
  match xs, hn3, hx1, h0, h1, h2 with
  | [x0, x1, x2], _, hx1, h0, h1, h2 =>
    simp only [List.map_cons, List.map_nil, List.cons.injEq] at hx1
    obtain ⟨k0, a0, b0, _⟩ := DataW.trod_int Tryd.underlying3 (show DataW.trod _ Tryd.prog W 0 _ false m1 3 _ = some x0 from h0)
    obtain ⟨k1, a1, b1, _⟩ := DataW.trod_int Tryd.underlying3 (show DataW.trod _ Tryd.prog W 0 _ false m1 3 _ = some x1 from h1)
    obtain ⟨k2, a2, b2, _⟩ := DataW.trod_int Tryd.underlying3 (show DataW.trod _ Tryd.prog W 0 _ false m1 3 _ = some x2 from h2)
    have q0 : k0 = 45 := by rw [b0] at hx1; simpa using hx1.1.1.symm
    have q1 : k1 = 93 := by rw [b1] at hx1; simpa using hx1.1.2.1.symm
    have q2 : k2 = 285 := by rw [b2] at hx1; simpa using hx1.1.2.2.1.symm
    subst q0 q1 q2
    have len3 : l1.length = 3 := by
      have hc3 : Tryd.prog.cellsOf 55 = 3 := by kernel_rfl
      have := hlen
      rw [hc3] at this
      simpa using this
    match l1, len3, a0, a1, a2 with
    | [c0, c1, c2], _, a0, a1, a2 =>
      simp at a0 a1 a2
      subst a0 a1 a2
      exact ⟨by simpa using e0, by simpa using e1, by simpa using e2⟩
end Go.Proofs.YtkpmlcgbffdloaaDoor
