/-
  PUTS: a list of calls that came in as an argument, element by element.
-/
import Derived.Test.YtgbobdlaahcjoaaOpen
import Derived.Deep.Slices
import Derived.ChangeSame
namespace Go.Proofs.Ytgbobdlaahcjoaa
open Go.ChangeShapes Go.WideShapes Go.ChangeAt Go.RowKit
set_option linter.unusedVariables false

/-- one put lies at o of block g: three numbers, and bytes -/
def aPut (w : World) (g o : Nat) : Prop :=
  ∃ (k d n : Int) (A : Option Addr) (h c : Nat) (l : List UInt8), w.cell? ⟨g, o, none⟩ = some (.int .i64 k) ∧ w.cell? ⟨g, o + 1, none⟩ = some (.int .i64 d) ∧ w.cell? ⟨g, o + 2, none⟩ = some (.int .i64 n) ∧ w.cell? ⟨g, o + 3, none⟩ = some (.slice A l.length c) ∧
    (Lit.int .i64 k).wf = true ∧ (Lit.int .i64 d).wf = true ∧ (Lit.int .i64 n).wf = true ∧ l.length ≤ c ∧ c ≤ maxLen ∧ seen w A h l ∧ (l ≠ [] → h < w.heap.size)
/-- a list of n puts -/
def puts (w : World) (A : Option Addr) (n : Nat) : Prop := 0 < n → ∃ g o, A = some ⟨g, o, none⟩ ∧ g < w.heap.size ∧ ∀ j, j < n → aPut w g (o + j * 4)

theorem aPut.keep {w w' : World} {g o : Nat} (h : aPut w g o) (hg : g < w.heap.size) (hk : keepBut [] w w') : aPut w' g o := by
  obtain ⟨k, d, n, A, b, c, l, h1, h2, h3, h4, h5, h6, h7, h8, h9, h10, h11⟩ := h
  have e := fun o => hk.cell (p := ⟨g, o, none⟩) hg (by simp)
  exact ⟨k, d, n, A, b, c, l, by rw [e]; exact h1, by rw [e]; exact h2, by rw [e]; exact h3, by rw [e]; exact h4, h5, h6, h7, h8, h9, h10.keep hk (by simp), fun hne => by have := hk.size; have := h11 hne; omega⟩
theorem puts.keep {w w' : World} {A : Option Addr} {n : Nat} (h : puts w A n) (hk : keepBut [] w w') : puts w' A n := by
  intro hn
  obtain ⟨g, o, h1, h2, h3⟩ := h hn
  exact ⟨g, o, h1, by have := hk.size; omega, fun j hj => (h3 j hj).keep h2 hk⟩

theorem putShape : (match Try.prog.underlying 29 with | some (.struct fs) => fs.toList.map (fun f => (f.offset, f.type)) | _ => []) = [(0, 3), (1, 3), (2, 3), (3, 27)] := by kernel_rfl
theorem putFields : ∃ f0 f1 f2 f3 : Field, Try.prog.underlying 29 = some (.struct #[f0, f1, f2, f3]) ∧ f0.offset = 0 ∧ f0.type = 3 ∧ f1.offset = 1 ∧ f1.type = 3 ∧ f2.offset = 2 ∧ f2.type = 3 ∧ f3.offset = 3 ∧ f3.type = 27 := by
  have h := putShape
  cases hu : Try.prog.underlying 29 with
  | none => rw [hu] at h; simp at h
  | some u =>
    rw [hu] at h
    cases u <;> simp at h
    rename_i fs
    obtain ⟨l⟩ := fs
    match l, h with
    | [f0, f1, f2, f3], h => simp at h; exact ⟨f0, f1, f2, f3, rfl, h.1.1, h.1.2, h.2.1.1, h.2.1.2, h.2.2.1.1, h.2.2.1.2, h.2.2.2.1, h.2.2.2.2⟩

theorem cellsInt : Try.prog.cellsOf 3 = 1 := by kernel_rfl
theorem cellsBytes : Try.prog.cellsOf 27 = 1 := by kernel_rfl
theorem cellsPut : Try.prog.cellsOf 29 = 4 := by kernel_rfl

theorem open_puts {H : Type} {enc : TypeId × Value → H} {W : World} {sp : Nat → Bool} {hd : Bool} {fuel : Nat} {cs : List Value} {x : DataW H × List MemPlace}
    (h : DataW.trod enc Try.prog W 0 sp hd fuel 22 cs = some x) :
    ∃ A n c, cs = [.slice A n c] ∧ n ≤ c ∧ c ≤ maxLen ∧ puts W A n := by
  rcases Deep.open_slice Try.underlying22 h with ⟨rfl, _⟩ | ⟨a, len, cap, m, n, D, Pl, rfl, hb, hl, hm, hmm, rfl, hx⟩
  · exact ⟨none, 0, 0, rfl, Nat.le_refl _, by simp [maxLen], fun h => absurd h (by omega)⟩
  · refine ⟨some a, len, cap, rfl, hl, hm, fun hn => ?_⟩
    have hlm : len ≤ m := by rw [hmm]; split <;> omega
    obtain ⟨b, o, s⟩ := a
    have hs : s = none := by
      obtain ⟨cs', h1, h2⟩ := hx 0 (by omega)
      rw [cellsPut] at h1
      obtain ⟨_, hlen, hcell⟩ := World.cells?_some h1
      have c0 := hcell 0 (by omega)
      rw [List.getElem?_eq_getElem (by omega)] at c0
      have := World.cell?_spot c0
      simpa [Addr.add] using this
    subst hs
    have each : ∀ j, j < len → b < W.heap.size ∧ aPut W b (o + j * 4) := by
      intro j hj
      obtain ⟨cs', h1, h2⟩ := hx j (by omega)
      obtain ⟨f0, f1, f2, f3, hu, o0, t0, o1, t1, o2, t2, o3, t3⟩ := putFields
      rw [cellsPut] at h1
      obtain ⟨_, hlen, hcell⟩ := World.cells?_some h1
      obtain ⟨xs, k, hk, hxy, _, hxl, hf⟩ := DataW.trod_struct hu h2
      have g0 := hf 0 f0 rfl
      have g1 := hf 1 f1 rfl
      have g2 := hf 2 f2 rfl
      have g3 := hf 3 f3 rfl
      rw [o0, t0, cellsInt] at g0
      rw [o1, t1, cellsInt] at g1
      rw [o2, t2, cellsInt] at g2
      rw [o3, t3, cellsBytes] at g3
      match xs, hxl, cs', hlen with
      | [y0, y1, y2, y3], _, [v0, v1, v2, v3], _ =>
        simp at g0 g1 g2 g3
        obtain ⟨z0, e0, _, w0⟩ := DataW.trod_int Try.underlying3 g0
        obtain ⟨z1, e1, _, w1⟩ := DataW.trod_int Try.underlying3 g1
        obtain ⟨z2, e2, _, w2⟩ := DataW.trod_int Try.underlying3 g2
        simp at e0 e1 e2
        subst e0 e1 e2
        have c0 := hcell 0 (by omega)
        have c1 := hcell 1 (by omega)
        have c2 := hcell 2 (by omega)
        have c3 := hcell 3 (by omega)
        simp only [add_plain] at c0 c1 c2 c3
        have hbs : b < W.heap.size := by simpa using World.block_lt_of_cell? W _ c0
        refine ⟨hbs, ?_⟩
        rcases open_ints Try.underlying27 Try.underlying5 (by kernel_rfl) g3 with ⟨hcs, _⟩ | ⟨x, l, c, zs, hcs, _, hl', hm', hz, _, hcl, hwz⟩
        · simp at hcs
          subst hcs
          exact ⟨z0, z1, z2, none, 0, 0, [], by simpa using c0, by simpa using c1, by simpa using c2, by simpa using c3, w0, w1, w2, Nat.le_refl _, by simp [maxLen], seen.nil _ _ _, fun h => absurd rfl h⟩
        · simp at hcs
          subst hcs
          have hzl : l ≤ zs.length := by rw [hz]; split <;> omega
          have hcl' : ∀ i, i < (zs.take l).length → W.cell? (x.add i) = some (.int .u8 ((zs.take l).getD i 0)) := by
            intro i hi
            rw [List.length_take] at hi
            rw [hcl i (by omega)]
            simp only [List.getD_eq_getElem?_getD, List.getElem?_take]
            rw [if_pos (by omega)]
          obtain ⟨g, hg, hr⟩ := reads_of_ints (k := .u8) (Nat.le_refl l) (by rw [List.length_take]; omega) hcl'
          rw [List.take_of_length_le (by rw [List.length_take]; omega)] at hr
          have hw8 : ∀ n ∈ zs.take l, 0 ≤ n ∧ n ≤ 255 := fun n hn => by
            have := hwz n (List.mem_of_mem_take hn)
            simpa [Lit.wf, IntKind.min, IntKind.max, IntKind.signed, IntKind.bits] using this
          have hbl : (bytesOf (zs.take l)).length = l := by rw [bytesOf_length, List.length_take]; omega
          rw [← bv_bytesOf _ hw8] at hr
          exact ⟨z0, z1, z2, some x, g, c, bytesOf (zs.take l), by simpa using c0, by simpa using c1, by simpa using c2, by rw [hbl]; simpa using c3, w0, w1, w2, by rw [hbl]; exact hl', hm', seen_of_reads hbl hr,
            fun hne => hg (by have := List.length_pos_iff.2 hne; omega)⟩
    exact ⟨b, o, rfl, (each 0 hn).1, fun j hj => (each j hj).2⟩
end Go.Proofs.Ytgbobdlaahcjoaa
