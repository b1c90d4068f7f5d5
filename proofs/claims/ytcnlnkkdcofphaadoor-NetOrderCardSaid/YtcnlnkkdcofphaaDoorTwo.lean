/-
  TWO: an array of two rows of numbers that came in as an argument.
-/
import Derived.Test.YtcnlnkkdcofphaaDoorNetOrder
import Derived.Test.YtcnlnkkdcofphaaDoorOpen
import Derived.Deep.Slices
import Derived.ChangeSame
namespace Go.Proofs.YtcnlnkkdcofphaaDoor
open Go.ChangeShapes Go.WideShapes Go.ChangeAt Go.RowKit
set_option linter.unusedVariables false
set_option maxRecDepth 100000

theorem i64P_wf2 {n : Int} (h : (Lit.int .i64 n).wf = true) : i64P n := by simpa [i64P, Lit.wf, IntKind.min, IntKind.max, IntKind.signed, IntKind.bits] using h
theorem oc_ints2 : Tryd.prog.cellsOf 35 = 1 := by kernel_rfl
theorem oc_two : Tryd.prog.cellsOf 64 = 2 := by kernel_rfl
theorem array_two2 {α : Type} (l : Array α) (h : l.size = 2) : ∃ a b, l = #[a, b] := by
  obtain ⟨l⟩ := l
  match l, h with
  | [a, b], _ => exact ⟨a, b, rfl⟩
section
variable {H : Type} {enc : TypeId × Value → H} {W : World} {sp : Nat → Bool} {hd : Bool} {fuel : Nat} {cs : List Value} {x : DataW H × List MemPlace}
theorem op_rowIn (h : DataW.trod enc Tryd.prog W 0 sp hd fuel 35 cs = some x) : ∃ v l, cs = [v] ∧ rowIn W v l := by
  rcases open_ints Tryd.underlying35 Tryd.underlying3 (by kernel_rfl) h with ⟨rfl, _⟩ | ⟨x, l, c, zs, rfl, _, hl', hm', hz, _, hcl, hwz⟩
  · exact ⟨_, [], rfl, ⟨⟨none, 0, 0, rfl, by simp, by simp [maxLen], ⟨rfl, fun h => absurd h (by simp)⟩⟩, by simp⟩⟩
  · have hzl : l ≤ zs.length := by rw [hz]; split <;> omega
    have hcl' : ∀ i, i < (zs.take l).length → W.cell? (x.add i) = some (.int .i64 ((zs.take l).getD i 0)) := by
      intro i hi
      rw [List.length_take] at hi
      rw [hcl i (by omega)]
      simp only [List.getD_eq_getElem?_getD, List.getElem?_take]
      rw [if_pos (by omega)]
    obtain ⟨g, hg, hr⟩ := reads_of_ints (k := .i64) (Nat.le_refl l) (by rw [List.length_take]; omega) hcl'
    rw [List.take_of_length_le (by rw [List.length_take]; omega)] at hr
    have hbl : (zs.take l).length = l := by rw [List.length_take]; omega
    refine ⟨_, zs.take l, rfl, ⟨⟨some x, c, g, by rw [hbl], by rw [hbl]; exact hl', hm', by rw [hbl]; exact hr⟩, fun n hn => i64P_wf2 (hwz n (List.mem_of_mem_take hn))⟩⟩
end
theorem open_two {H : Type} {enc : TypeId × Value → H} {W : World} {r : Reach} {b0 : Nat} {sp : Nat → Bool} {hd : Bool} {v : Value} {d : DataW H} {p : List MemPlace}
    (hv : Value.okWide Tryd.prog W r b0 64 v) (h : DataW.Trod enc Tryd.prog W 0 sp hd 64 v d p) :
    ∃ u0 u1 l0 l1, v = .agg #[u0, u1] ∧ rowIn W u0 l0 ∧ rowIn W u1 l1 := by
  obtain ⟨cs, rfl, hsz, _⟩ : ∃ cs, v = .agg cs ∧ cs.size = Tryd.prog.cellsOf 64 ∧ Row.okWide Tryd.prog W r b0 64 cs := by
    simpa [Value.okWide, Tryd.underlying64] using hv
  rw [oc_two] at hsz
  obtain ⟨c0, c1, rfl⟩ := array_two2 cs hsz
  obtain ⟨fuel, hf⟩ := h
  obtain ⟨xs, m, _, _, _, hl, hx⟩ := DataW.trod_array Tryd.underlying64 hf
  have h0 := hx 0 (by omega)
  have h1 := hx 1 (by omega)
  rw [oc_ints2] at h0 h1
  match xs, hl with
  | [y0, y1], _ =>
    simp [Value.cells] at h0 h1
    obtain ⟨u0, l0, e0, w0⟩ := op_rowIn h0
    obtain ⟨u1, l1, e1, w1⟩ := op_rowIn h1
    simp at e0 e1
    subst e0 e1
    exact ⟨c0, c1, l0, l1, rfl, w0, w1⟩
theorem netOrder_lift (room : Int) (u0 u1 : Value) (l0 l1 : List Int) (many : Int) (w : World) (hroom : (Lit.int .i64 room).wf = true) (hu0 : rowIn w u0 l0) (hu1 : rowIn w u1 l1) (hmany : (Lit.int .i64 many).wf = true) (hfl : fieldsAt w) :
    Calls Tryd.prog 5 #[.int .i64 room, .agg #[u0, u1], .int .i64 many] w fun e w' => e = .returned (.bool true) ∧ keepBut [] w w' :=
  netOrder_law room many u0 u1 l0 l1 w (i64P_wf2 hroom) (i64P_wf2 hmany) hu0 hu1 hfl
end Go.Proofs.YtcnlnkkdcofphaaDoor
