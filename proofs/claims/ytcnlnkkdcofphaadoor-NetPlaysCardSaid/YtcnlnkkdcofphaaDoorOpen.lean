/-
  OPEN: what a slice that came in as an argument reads as, in the words of Base and Append.
-/
import Derived.Test.YtcnlnkkdcofphaaDoorLow1
import Derived.ProofKit
import Derived.OpenShut
import Derived.ShutString
import Derived.ChangeOld
import Derived.Below
namespace Go.Proofs.YtcnlnkkdcofphaaDoor
open Go.ChangeShapes Go.WideShapes Go.ChangeAt Go.RowKit
set_option linter.unusedVariables false

/-- integers of kind k as cells -/
def cellsK (k : IntKind) (xs : List Int) : List Value := xs.map (Value.int k)

theorem reads_of_ints {w : World} {k : IntKind} {x : Addr} {n c : Nat} {zs : List Int} (hl : n ≤ c) (hz : zs.length = c) (hcell : ∀ i, i < zs.length → w.cell? (x.add i) = some (.int k (zs.getD i 0))) :
    ∃ g, (0 < n → g < w.heap.size) ∧ reads w (some x) g n 1 (cellsK k (zs.take n)) := by
  refine ⟨x.block, fun hn => ?_, by simp [cellsK]; omega, fun hn => ?_⟩
  · have := hcell 0 (by omega)
    have hb := World.block_lt_of_cell? w _ this
    simpa [Addr.add] using hb
  · have h0 := hcell 0 (by omega)
    have hsp : x.spot = none := by simpa [Addr.add] using World.cell?_spot h0
    obtain ⟨b, o, s⟩ := x
    simp only at hsp
    subst hsp
    refine ⟨o, rfl, ?_, fun j u hu => ?_⟩
    · have hb := World.block_lt_of_cell? w _ h0
      simpa [Addr.add] using hb
    · simp only [cellsK, List.getElem?_map] at hu
      rw [List.getElem?_take] at hu
      split at hu
      · rename_i hj
        have := hcell j (by omega)
        rw [add_plain] at this
        rw [this]
        rw [List.getElem?_eq_getElem (by omega)] at hu
        simp only [Option.map_some, Option.some.injEq] at hu
        rw [← hu, List.getD_eq_getElem?_getD, List.getElem?_eq_getElem (by omega)]
        rfl
      · cases hu

/-- the bytes that integers are -/
def bytesOf (xs : List Int) : List UInt8 := xs.map fun n => UInt8.ofNat n.toNat
theorem bytesOf_length (xs : List Int) : (bytesOf xs).length = xs.length := by simp [bytesOf]
theorem bv_bytesOf (xs : List Int) (h : ∀ n ∈ xs, 0 ≤ n ∧ n ≤ 255) : (bytesOf xs).map bv = cellsK .u8 xs := by
  unfold bytesOf cellsK
  rw [List.map_map]
  apply List.map_congr_left
  intro n hn
  have := h n hn
  simp only [Function.comp, bv, UInt8.toNat_ofNat']
  congr 1
  omega
theorem seen_of_reads {w : World} {A : Option Addr} {g n : Nat} {l : List UInt8} (hl : l.length = n) (h : reads w A g n 1 (l.map bv)) : seen w A g l := by
  intro hne
  obtain ⟨o, hA, hlt, hc⟩ := h.2 (by have := List.length_pos_iff.2 hne; omega)
  exact ⟨o, hA, hlt, fun j b hb => hc j _ (by rw [List.getElem?_map, hb]; rfl)⟩
end Go.Proofs.YtcnlnkkdcofphaaDoor
