/-
  PACK: what the listed table gives the walks; a start at which it is met.
-/
import Derived.Test.YtcnlnkkdcofphaaDoorPkA
import Derived.ProofKit
import Derived.LaidMore
import Derived.OpenShut
import Derived.Stop.Joined
namespace Go.Proofs.YtcnlnkkdcofphaaDoor
open Go.ChangeShapes Go.WideShapes Go.ChangeAt Go.WideMaps Go.WideElems Go.RowKit
set_option linter.unusedVariables false

abbrev laidL : List (String × DataW Unit) := [("sealchain/pack.fields", Rows.laid_sealchain_pack_fields)]
theorem gFields : Tryd.prog.globalNamed "sealchain/pack.fields" = some 0 := by kernel_rfl
theorem tFields : (Tryd.prog.globals[0]?).map (·.type) = some 98 := by kernel_rfl
theorem cIntL : Tryd.prog.cellsOf 3 = 1 := by kernel_rfl

theorem door_met (os : Os) (args : Array Value) : laidMetH Tryd.prog laidL ((World.doorLaid Tryd.prog 400 os).forCall (fun _ _ => 0) ⟨#[], args, []⟩).memory :=
  laidMetH_of_parts3 (fuel := 8) (laidMet_of_run' 8 (by kernel_rfl) (by kernel_rfl)) (by kernel_rfl) (by kernel_rfl)

theorem lits_at {H : Type} : ∀ k : Nat, k < 15 → ([.lit (.int .i64 0), .lit (.int .i64 16), .lit (.int .i64 32), .lit (.int .i64 19), .lit (.int .i64 3), .lit (.int .i64 3), .lit (.int .i64 259), .lit (.int .i64 64), .lit (.int .i64 9), .lit (.int .i64 1024), .lit (.int .i64 6), .lit (.int .i64 134), .lit (.int .i64 70), .lit (.int .i64 6), .lit (.int .i64 4)] : List (DataW H))[k]? = some (.lit (.int .i64 (fieldsT k)))
  | 0, _ => rfl
  | 1, _ => rfl
  | 2, _ => rfl
  | 3, _ => rfl
  | 4, _ => rfl
  | 5, _ => rfl
  | 6, _ => rfl
  | 7, _ => rfl
  | 8, _ => rfl
  | 9, _ => rfl
  | 10, _ => rfl
  | 11, _ => rfl
  | 12, _ => rfl
  | 13, _ => rfl
  | 14, _ => rfl
  | k + 15, h => by omega
theorem fields_of_laid {W : World} (h : laidMetH Tryd.prog laidL W) : fieldsAt W := by
  rw [MakeChecks.laidMetH_plain _ _ _ (by kernel_rfl)] at h
  obtain ⟨ps, ⟨g0, t0, cs0, f0, p0, q0, hg0, ht0, hv0, hd0, _⟩, _⟩ := h
  obtain rfl := Option.some.inj (gFields.symm.trans hg0)
  obtain rfl := Option.some.inj (tFields.symm.trans ht0)
  obtain ⟨xs, m1, rfl, hx1, hlen, hn3, hel⟩ := DataW.trod_array Tryd.underlying98 hd0
  simp only [Prod.mk.injEq, Rows.laid_sealchain_pack_fields, DataW.agg.injEq] at hx1
  intro k hk
  have hc := World.var?_cell hg0 hv0 k
  obtain ⟨x, hx⟩ : ∃ x, xs[k]? = some x := ⟨_, List.getElem?_eq_getElem (by omega)⟩
  have h0 := hel k hk
  rw [cIntL, hx, Nat.mul_one] at h0
  obtain ⟨n, hn, hxn, _⟩ := DataW.trod_int Tryd.underlying3 h0
  have hm : (xs.map (·.1))[k]? = some (.lit (.int .i64 n)) := by rw [List.getElem?_map, hx, hxn]; rfl
  rw [← hx1.1, lits_at k hk] at hm
  simp only [Option.some.injEq, DataW.lit.injEq, Lit.int.injEq, true_and] at hm
  have hv : cs0.toList[k]? = some (.int .i64 n) := by
    have := congrArg (fun l => l[0]?) hn
    simpa [List.getElem?_take, List.getElem?_drop] using this
  rw [hc, hm, ← hv]
  simp
end Go.Proofs.YtcnlnkkdcofphaaDoor
