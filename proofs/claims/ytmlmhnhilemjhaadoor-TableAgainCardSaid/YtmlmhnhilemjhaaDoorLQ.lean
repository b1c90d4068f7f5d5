/-
  LQ: Open, TabLaid, joined.
-/
import Derived.Test.YtmlmhnhilemjhaaDoorLow1
import Derived.ProofKit
import Derived.OpenShut
import Derived.ShutString
import Derived.ChangeOld
import Derived.Below
import Derived.Test.YtmlmhnhilemjhaaDoorTB16
import Derived.LaidMore
import Derived.Stop.Joined
section
namespace Go.Proofs.YtmlmhnhilemjhaaDoor
open Go.ChangeShapes Go.WideShapes Go.ChangeAt Go.RowKit
set_option linter.unusedVariables false

/-- integers of kind k as cells -/
def cellsK (k : IntKind) (xs : List Int) : List Value := xs.map (Value.int k)

theorem reads_of_ints {w : World} {k : IntKind} {x : Addr} {n c : Nat} {zs : List Int} (hl : n ≤ c) (hz : zs.length = c) (hcell : ∀ i, i < zs.length → w.cell? (x.add i) = some (.int k (zs.getD i 0))) :
    ∃ g, (0 < n → g < w.heap.size) ∧ reads w (some x) g n 1 (cellsK k (zs.take n)) := by
  refine ⟨x.block, fun hn => ?_, by simp [cellsK]; omega, fun hn => ?_⟩
  · have := hcell 0 (by omega)
    have hb := World.block_lt_of_cell? w _ this
    simpa [Addr.add] using hb
  · have h0 := hcell 0 (by omega)
    have hsp : x.spot = none := by simpa [Addr.add] using World.cell?_spot h0
    obtain ⟨b, o, s⟩ := x
    simp only at hsp
    subst hsp
    refine ⟨o, rfl, ?_, fun j u hu => ?_⟩
    · have hb := World.block_lt_of_cell? w _ h0
      simpa [Addr.add] using hb
    · simp only [cellsK, List.getElem?_map] at hu
      rw [List.getElem?_take] at hu
      split at hu
      · rename_i hj
        have := hcell j (by omega)
        rw [add_plain] at this
        rw [this]
        rw [List.getElem?_eq_getElem (by omega)] at hu
        simp only [Option.map_some, Option.some.injEq] at hu
        rw [← hu, List.getD_eq_getElem?_getD, List.getElem?_eq_getElem (by omega)]
        rfl
      · cases hu

/-- the bytes that integers are -/
def bytesOf (xs : List Int) : List UInt8 := xs.map fun n => UInt8.ofNat n.toNat
theorem bytesOf_length (xs : List Int) : (bytesOf xs).length = xs.length := by simp [bytesOf]
theorem bv_bytesOf (xs : List Int) (h : ∀ n ∈ xs, 0 ≤ n ∧ n ≤ 255) : (bytesOf xs).map bv = cellsK .u8 xs := by
  unfold bytesOf cellsK
  rw [List.map_map]
  apply List.map_congr_left
  intro n hn
  have := h n hn
  simp only [Function.comp, bv, UInt8.toNat_ofNat']
  congr 1
  omega
theorem seen_of_reads {w : World} {A : Option Addr} {g n : Nat} {l : List UInt8} (hl : l.length = n) (h : reads w A g n 1 (l.map bv)) : seen w A g l := by
  intro hne
  obtain ⟨o, hA, hlt, hc⟩ := h.2 (by have := List.length_pos_iff.2 hne; omega)
  exact ⟨o, hA, hlt, fun j b hb => hc j _ (by rw [List.getElem?_map, hb]; rfl)⟩
end Go.Proofs.YtmlmhnhilemjhaaDoor
end

section
namespace Go.Proofs.YtmlmhnhilemjhaaDoor
open Go.ChangeShapes Go.WideShapes Go.ChangeAt Go.WideMaps Go.WideElems Go.RowKit
set_option linter.unusedVariables false
set_option maxRecDepth 100000

abbrev laidL : List (String × DataW Unit) := [("sealchain/seal.sizes", Rows.laid_sealchain_seal_sizes)]
theorem gSizes : Tryd.prog.globalNamed "sealchain/seal.sizes" = some 0 := by kernel_rfl
theorem tSizes : (Tryd.prog.globals[0]?).map (·.type) = some 26 := by kernel_rfl
theorem cInt : Tryd.prog.cellsOf 3 = 1 := by kernel_rfl

theorem door_met (os : Os) (args : Array Value) : laidMetH Tryd.prog laidL ((World.doorLaid Tryd.prog 400 os).forCall (fun _ _ => 0) ⟨#[], args, []⟩).memory :=
  laidMetH_of_parts3 (fuel := 8) (laidMet_of_run' 8 (by kernel_rfl) (by kernel_rfl)) (by kernel_rfl) (by kernel_rfl)

theorem sizes_of_laid {W : World} (h : laidMetH Tryd.prog laidL W) : sizesAt W := by
  rw [MakeChecks.laidMetH_plain _ _ _ (by kernel_rfl)] at h
  obtain ⟨ps, ⟨g0, t0, cs0, f0, p0, q0, hg0, ht0, hv0, hd0, _⟩, _⟩ := h
  obtain rfl := Option.some.inj (gSizes.symm.trans hg0)
  obtain rfl := Option.some.inj (tSizes.symm.trans ht0)
  obtain ⟨xs, m1, rfl, hx1, hlen, hn3, hel⟩ := DataW.trod_array Tryd.underlying26 hd0
  have h0 := hel 0 (by decide)
  have h1 := hel 1 (by decide)
  have h2 := hel 2 (by decide)
  rw [cInt] at h0 h1 h2
  have e0 := World.var?_cell hg0 hv0 0
  have e1 := World.var?_cell hg0 hv0 1
  have e2 := World.var?_cell hg0 hv0 2
  simp only [Prod.mk.injEq, Rows.laid_sealchain_seal_sizes, DataW.agg.injEq] at hx1
  obtain ⟨l1⟩ := cs0
  match xs, hn3, hx1, h0, h1, h2 with
  | [x0, x1, x2], _, hx1, h0, h1, h2 =>
    simp only [List.map_cons, List.map_nil, List.cons.injEq] at hx1
    obtain ⟨k0, a0, b0, _⟩ := DataW.trod_int Tryd.underlying3 (show DataW.trod _ Tryd.prog W 0 _ false m1 3 _ = some x0 from h0)
    obtain ⟨k1, a1, b1, _⟩ := DataW.trod_int Tryd.underlying3 (show DataW.trod _ Tryd.prog W 0 _ false m1 3 _ = some x1 from h1)
    obtain ⟨k2, a2, b2, _⟩ := DataW.trod_int Tryd.underlying3 (show DataW.trod _ Tryd.prog W 0 _ false m1 3 _ = some x2 from h2)
    have q0 : k0 = 45 := by rw [b0] at hx1; simpa using hx1.1.1.symm
    have q1 : k1 = 93 := by rw [b1] at hx1; simpa using hx1.1.2.1.symm
    have q2 : k2 = 285 := by rw [b2] at hx1; simpa using hx1.1.2.2.1.symm
    subst q0 q1 q2
    have len3 : l1.length = 3 := by
      have hc3 : Tryd.prog.cellsOf 26 = 3 := by kernel_rfl
      have := hlen
      rw [hc3] at this
      simpa using this
    match l1, len3, a0, a1, a2 with
    | [c0, c1, c2], _, a0, a1, a2 =>
      simp at a0 a1 a2
      subst a0 a1 a2
      exact ⟨by simpa using e0, by simpa using e1, by simpa using e2⟩
end Go.Proofs.YtmlmhnhilemjhaaDoor
end
