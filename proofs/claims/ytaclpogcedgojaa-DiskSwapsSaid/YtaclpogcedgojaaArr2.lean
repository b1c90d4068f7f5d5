/-
  ARR2: an array of two numbers that came in as an argument.
-/
import Derived.Test.YtaclpogcedgojaaOpen
namespace Go.Proofs.Ytaclpogcedgojaa
open Go.ChangeShapes Go.WideShapes Go.ChangeAt Go.RowKit
set_option linter.unusedVariables false

theorem cellsI64 : Try.prog.cellsOf 3 = 1 := by kernel_rfl
theorem cellsArr2 : Try.prog.cellsOf 43 = 2 := by kernel_rfl
theorem array_two {α : Type} (l : Array α) (h : l.size = 2) : ∃ a b, l = #[a, b] := by
  obtain ⟨l⟩ := l
  match l, h with
  | [a, b], _ => exact ⟨a, b, rfl⟩
theorem open_arr2 {H : Type} {enc : TypeId × Value → H} {W : World} {r : Reach} {b0 base : Nat} {sp : Nat → Bool} {hd : Bool} {v : Value} {d : DataW H} {p : List MemPlace}
    (hv : Value.okWide Try.prog W r b0 43 v) (h : DataW.Trod enc Try.prog W base sp hd 43 v d p) :
    ∃ a b, v = .agg #[.int .i64 a, .int .i64 b] ∧ (Lit.int .i64 a).wf = true ∧ (Lit.int .i64 b).wf = true := by
  obtain ⟨cs, rfl, hsz, _⟩ : ∃ cs, v = .agg cs ∧ cs.size = Try.prog.cellsOf 43 ∧ Row.okWide Try.prog W r b0 43 cs := by
    simpa [Value.okWide, Try.underlying43] using hv
  rw [cellsArr2] at hsz
  obtain ⟨c0, c1, rfl⟩ := array_two cs hsz
  obtain ⟨fuel, hf⟩ := h
  obtain ⟨xs, m, _, _, _, hl, hx⟩ := DataW.trod_array Try.underlying43 hf
  have h0 := hx 0 (by omega)
  have h1 := hx 1 (by omega)
  rw [cellsI64] at h0 h1
  match xs, hl with
  | [y0, y1], _ =>
    simp [Value.cells] at h0 h1
    obtain ⟨a, e0, _, w0⟩ := DataW.trod_int Try.underlying3 h0
    obtain ⟨b, e1, _, w1⟩ := DataW.trod_int Try.underlying3 h1
    simp at e0 e1
    subst e0 e1
    exact ⟨a, b, rfl, w0, w1⟩
end Go.Proofs.Ytaclpogcedgojaa
