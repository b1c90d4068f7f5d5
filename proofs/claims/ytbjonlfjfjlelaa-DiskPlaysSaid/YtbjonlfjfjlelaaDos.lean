/-
  DOS: a list of Do that came in as an argument, element by element. (Written by gen/structs.py.)
-/
import Derived.Test.YtbjonlfjfjlelaaOpen
import Derived.Deep.Slices
import Derived.ChangeSame
namespace Go.Proofs.Ytbjonlfjfjlelaa
open Go.ChangeShapes Go.WideShapes Go.ChangeAt Go.RowKit
set_option linter.unusedVariables false
set_option maxRecDepth 100000

/-- one Do lies at o of block g -/
def aDo (w : World) (g o : Nat) : Prop :=
  ∃ (x0 : Int) (x1 : Int) (x2 : Bool) (A3 : Option Addr) (h3 c3 : Nat) (l3 : List UInt8), w.cell? ⟨g, o, none⟩ = some (.int .i64 x0) ∧ w.cell? ⟨g, o + 1, none⟩ = some (.int .i64 x1) ∧ w.cell? ⟨g, o + 2, none⟩ = some (.bool x2) ∧ w.cell? ⟨g, o + 3, none⟩ = some (.slice A3 l3.length c3) ∧ (Lit.int .i64 x0).wf = true ∧ (Lit.int .i64 x1).wf = true ∧ l3.length ≤ c3 ∧ c3 ≤ maxLen ∧ seen w A3 h3 l3 ∧ (l3 ≠ [] → h3 < w.heap.size)
/-- a list of n of them -/
def dos (w : World) (A : Option Addr) (n : Nat) : Prop := 0 < n → ∃ g o, A = some ⟨g, o, none⟩ ∧ g < w.heap.size ∧ ∀ j, j < n → aDo w g (o + j * 4)

theorem aDo.keep {w w' : World} {g o : Nat} (h : aDo w g o) (hg : g < w.heap.size) (hk : keepBut [] w w') : aDo w' g o := by
  obtain ⟨x0, x1, x2, A3, h3, c3, l3, e0, e1, e2, e3, q0, q1, a3, b3, s3, z3⟩ := h
  have e := fun o => hk.cell (p := ⟨g, o, none⟩) hg (by simp)
  exact ⟨x0, x1, x2, A3, h3, c3, l3, by rw [e]; exact e0, by rw [e]; exact e1, by rw [e]; exact e2, by rw [e]; exact e3, q0, q1, a3, b3, s3.keep hk (by simp), fun hne => by have := hk.size; have := z3 hne; omega⟩
theorem dos.keep {w w' : World} {A : Option Addr} {n : Nat} (h : dos w A n) (hk : keepBut [] w w') : dos w' A n := by
  intro hn
  obtain ⟨g, o, h1, h2, h3⟩ := h hn
  exact ⟨g, o, h1, by have := hk.size; omega, fun j hj => (h3 j hj).keep h2 hk⟩

theorem doShape : (match Try.prog.underlying 30 with | some (.struct fs) => fs.toList.map (fun f => (f.offset, f.type)) | _ => []) = [(0, 3), (1, 3), (2, 4), (3, 28)] := by kernel_rfl
theorem doFields : ∃ f0 f1 f2 f3 : Field, Try.prog.underlying 30 = some (.struct #[f0, f1, f2, f3]) ∧ f0.offset = 0 ∧ f0.type = 3 ∧ f1.offset = 1 ∧ f1.type = 3 ∧ f2.offset = 2 ∧ f2.type = 4 ∧ f3.offset = 3 ∧ f3.type = 28 := by
  have h := doShape
  cases hu : Try.prog.underlying 30 with
  | none => rw [hu] at h; simp at h
  | some u =>
    rw [hu] at h
    cases u <;> simp at h
    rename_i fs
    obtain ⟨l⟩ := fs
    match l, h with
    | [f0, f1, f2, f3], h => simp at h; exact ⟨f0, f1, f2, f3, rfl, by simp [h]⟩

theorem cellsI_do : Try.prog.cellsOf 3 = 1 := by kernel_rfl
theorem cellsB_do : Try.prog.cellsOf 4 = 1 := by kernel_rfl
theorem cellsS_do : Try.prog.cellsOf 28 = 1 := by kernel_rfl
theorem cellsDo : Try.prog.cellsOf 30 = 4 := by kernel_rfl

theorem open_dos {H : Type} {enc : TypeId × Value → H} {W : World} {sp : Nat → Bool} {hd : Bool} {fuel : Nat} {cs : List Value} {x : DataW H × List MemPlace}
    (h : DataW.trod enc Try.prog W 0 sp hd fuel 22 cs = some x) :
    ∃ A n c, cs = [.slice A n c] ∧ n ≤ c ∧ c ≤ maxLen ∧ dos W A n := by
  rcases Deep.open_slice Try.underlying22 h with ⟨rfl, _⟩ | ⟨a, len, cap, m, n, D, Pl, rfl, hb, hl, hm, hmm, rfl, hx⟩
  · exact ⟨none, 0, 0, rfl, Nat.le_refl _, by simp [maxLen], fun h => absurd h (by omega)⟩
  · refine ⟨some a, len, cap, rfl, hl, hm, fun hn => ?_⟩
    have hlm : len ≤ m := by rw [hmm]; split <;> omega
    obtain ⟨b, o, s⟩ := a
    have hs : s = none := by
      obtain ⟨cs', h1, h2⟩ := hx 0 (by omega)
      rw [cellsDo] at h1
      obtain ⟨_, hlen, hcell⟩ := World.cells?_some h1
      have c0 := hcell 0 (by omega)
      rw [List.getElem?_eq_getElem (by omega)] at c0
      have := World.cell?_spot c0
      simpa [Addr.add] using this
    subst hs
    have each : ∀ j, j < len → b < W.heap.size ∧ aDo W b (o + j * 4) := by
      intro j hj
      obtain ⟨cs', h1, h2⟩ := hx j (by omega)
      obtain ⟨f0, f1, f2, f3, hu, o0, t0, o1, t1, o2, t2, o3, t3⟩ := doFields
      rw [cellsDo] at h1
      obtain ⟨_, hlen, hcell⟩ := World.cells?_some h1
      obtain ⟨xs, k, hk, hxy, _, hxl, hf⟩ := DataW.trod_struct hu h2
      have g0 := hf 0 f0 rfl
      rw [o0, t0, cellsI_do] at g0
      have g1 := hf 1 f1 rfl
      rw [o1, t1, cellsI_do] at g1
      have g2 := hf 2 f2 rfl
      rw [o2, t2, cellsB_do] at g2
      have g3 := hf 3 f3 rfl
      rw [o3, t3, cellsS_do] at g3
      match xs, hxl, cs', hlen with
      | [y0, y1, y2, y3], _, [v0, v1, v2, v3], _ =>
        simp at g0 g1 g2 g3
        obtain ⟨z0, e0, _, w0⟩ := DataW.trod_int Try.underlying3 g0
        simp at e0
        subst e0
        obtain ⟨z1, e1, _, w1⟩ := DataW.trod_int Try.underlying3 g1
        simp at e1
        subst e1
        obtain ⟨z2, e2, _⟩ := DataW.trod_bool Try.underlying4 g2
        simp at e2
        subst e2
        have c0 := hcell 0 (by omega)
        have c1 := hcell 1 (by omega)
        have c2 := hcell 2 (by omega)
        have c3 := hcell 3 (by omega)
        simp only [add_plain] at c0 c1 c2 c3
        have hbs : b < W.heap.size := by simpa using World.block_lt_of_cell? W _ c0
        refine ⟨hbs, ?_⟩
        obtain ⟨A3, h3, n3, d3, l3, hv3, hl3, ha3, hb3, hs3, hz3⟩ : ∃ (A : Option Addr) (h n c : Nat) (l : List UInt8), v3 = .slice A n c ∧ l.length = n ∧ l.length ≤ c ∧ c ≤ maxLen ∧ seen W A h l ∧ (l ≠ [] → h < W.heap.size) := by
          rcases open_ints Try.underlying28 Try.underlying5 (by kernel_rfl) g3 with ⟨hcs, _⟩ | ⟨x, l, c, zs, hcs, _, hl', hm', hz, _, hcl, hwz⟩
          · simp at hcs
            exact ⟨none, 0, 0, 0, [], hcs, rfl, Nat.le_refl _, by simp [maxLen], seen.nil _ _ _, fun h => absurd rfl h⟩
          · simp at hcs
            have hzl : l ≤ zs.length := by rw [hz]; split <;> omega
            have hcl' : ∀ i, i < (zs.take l).length → W.cell? (x.add i) = some (.int .u8 ((zs.take l).getD i 0)) := by
              intro i hi
              rw [List.length_take] at hi
              rw [hcl i (by omega)]
              simp only [List.getD_eq_getElem?_getD, List.getElem?_take]
              rw [if_pos (by omega)]
            obtain ⟨g, hg, hr⟩ := reads_of_ints (k := .u8) (Nat.le_refl l) (by rw [List.length_take]; omega) hcl'
            rw [List.take_of_length_le (by rw [List.length_take]; omega)] at hr
            have hw8 : ∀ n ∈ zs.take l, 0 ≤ n ∧ n ≤ 255 := fun n hn => by
              have := hwz n (List.mem_of_mem_take hn)
              simpa [Lit.wf, IntKind.min, IntKind.max, IntKind.signed, IntKind.bits] using this
            have hbl : (bytesOf (zs.take l)).length = l := by rw [bytesOf_length, List.length_take]; omega
            rw [← bv_bytesOf _ hw8] at hr
            exact ⟨some x, g, l, c, bytesOf (zs.take l), hcs, hbl, by rw [hbl]; exact hl', hm', seen_of_reads hbl hr, fun hne => hg (by have := List.length_pos_iff.2 hne; omega)⟩
        subst hv3 hl3
        exact ⟨z0, z1, z2, A3, h3, d3, l3, by simpa using c0, by simpa using c1, by simpa using c2, by simpa using c3, w0, w1, ha3, hb3, hs3, hz3⟩
    exact ⟨b, o, rfl, (each 0 hn).1, fun j hj => (each j hj).2⟩
end Go.Proofs.Ytbjonlfjfjlelaa
