/-
  LQ: Open, Ques, TabLaid, joined.
-/
import Derived.Test.YtmlmhnhilemjhaaDoorLow1
import Derived.ProofKit
import Derived.OpenShut
import Derived.ShutString
import Derived.ChangeOld
import Derived.Below
import Derived.Deep.Slices
import Derived.ChangeSame
import Derived.Test.YtmlmhnhilemjhaaDoorTB16
import Derived.LaidMore
import Derived.Stop.Joined
section
namespace Go.Proofs.YtmlmhnhilemjhaaDoor
open Go.ChangeShapes Go.WideShapes Go.ChangeAt Go.RowKit
set_option linter.unusedVariables false

/-- integers of kind k as cells -/
def cellsK (k : IntKind) (xs : List Int) : List Value := xs.map (Value.int k)

theorem reads_of_ints {w : World} {k : IntKind} {x : Addr} {n c : Nat} {zs : List Int} (hl : n ≤ c) (hz : zs.length = c) (hcell : ∀ i, i < zs.length → w.cell? (x.add i) = some (.int k (zs.getD i 0))) :
    ∃ g, (0 < n → g < w.heap.size) ∧ reads w (some x) g n 1 (cellsK k (zs.take n)) := by
  refine ⟨x.block, fun hn => ?_, by simp [cellsK]; omega, fun hn => ?_⟩
  · have := hcell 0 (by omega)
    have hb := World.block_lt_of_cell? w _ this
    simpa [Addr.add] using hb
  · have h0 := hcell 0 (by omega)
    have hsp : x.spot = none := by simpa [Addr.add] using World.cell?_spot h0
    obtain ⟨b, o, s⟩ := x
    simp only at hsp
    subst hsp
    refine ⟨o, rfl, ?_, fun j u hu => ?_⟩
    · have hb := World.block_lt_of_cell? w _ h0
      simpa [Addr.add] using hb
    · simp only [cellsK, List.getElem?_map] at hu
      rw [List.getElem?_take] at hu
      split at hu
      · rename_i hj
        have := hcell j (by omega)
        rw [add_plain] at this
        rw [this]
        rw [List.getElem?_eq_getElem (by omega)] at hu
        simp only [Option.map_some, Option.some.injEq] at hu
        rw [← hu, List.getD_eq_getElem?_getD, List.getElem?_eq_getElem (by omega)]
        rfl
      · cases hu

/-- the bytes that integers are -/
def bytesOf (xs : List Int) : List UInt8 := xs.map fun n => UInt8.ofNat n.toNat
theorem bytesOf_length (xs : List Int) : (bytesOf xs).length = xs.length := by simp [bytesOf]
theorem bv_bytesOf (xs : List Int) (h : ∀ n ∈ xs, 0 ≤ n ∧ n ≤ 255) : (bytesOf xs).map bv = cellsK .u8 xs := by
  unfold bytesOf cellsK
  rw [List.map_map]
  apply List.map_congr_left
  intro n hn
  have := h n hn
  simp only [Function.comp, bv, UInt8.toNat_ofNat']
  congr 1
  omega
theorem seen_of_reads {w : World} {A : Option Addr} {g n : Nat} {l : List UInt8} (hl : l.length = n) (h : reads w A g n 1 (l.map bv)) : seen w A g l := by
  intro hne
  obtain ⟨o, hA, hlt, hc⟩ := h.2 (by have := List.length_pos_iff.2 hne; omega)
  exact ⟨o, hA, hlt, fun j b hb => hc j _ (by rw [List.getElem?_map, hb]; rfl)⟩
end Go.Proofs.YtmlmhnhilemjhaaDoor
end

section
namespace Go.Proofs.YtmlmhnhilemjhaaDoor
open Go.ChangeShapes Go.WideShapes Go.ChangeAt Go.RowKit
set_option linter.unusedVariables false
set_option maxRecDepth 100000

/-- one Que lies at o of block g -/
def aQue (w : World) (g o : Nat) : Prop :=
  ∃ (x0 : Int) (x1 : Int) (x2 : Int) (x3 : Int) (x4 : Bool), w.cell? ⟨g, o, none⟩ = some (.int .i64 x0) ∧ w.cell? ⟨g, o + 1, none⟩ = some (.int .i64 x1) ∧ w.cell? ⟨g, o + 2, none⟩ = some (.int .i64 x2) ∧ w.cell? ⟨g, o + 3, none⟩ = some (.int .i64 x3) ∧ w.cell? ⟨g, o + 4, none⟩ = some (.bool x4) ∧ (Lit.int .i64 x0).wf = true ∧ (Lit.int .i64 x1).wf = true ∧ (Lit.int .i64 x2).wf = true ∧ (Lit.int .i64 x3).wf = true
/-- a list of n of them -/
def ques (w : World) (A : Option Addr) (n : Nat) : Prop := 0 < n → ∃ g o, A = some ⟨g, o, none⟩ ∧ g < w.heap.size ∧ ∀ j, j < n → aQue w g (o + j * 5)

theorem aQue.keep {w w' : World} {g o : Nat} (h : aQue w g o) (hg : g < w.heap.size) (hk : keepBut [] w w') : aQue w' g o := by
  obtain ⟨x0, x1, x2, x3, x4, e0, e1, e2, e3, e4, q0, q1, q2, q3⟩ := h
  have e := fun o => hk.cell (p := ⟨g, o, none⟩) hg (by simp)
  exact ⟨x0, x1, x2, x3, x4, by rw [e]; exact e0, by rw [e]; exact e1, by rw [e]; exact e2, by rw [e]; exact e3, by rw [e]; exact e4, q0, q1, q2, q3⟩
theorem ques.keep {w w' : World} {A : Option Addr} {n : Nat} (h : ques w A n) (hk : keepBut [] w w') : ques w' A n := by
  intro hn
  obtain ⟨g, o, h1, h2, h3⟩ := h hn
  exact ⟨g, o, h1, by have := hk.size; omega, fun j hj => (h3 j hj).keep h2 hk⟩

theorem queShape : (match Tryd.prog.underlying 34 with | some (.struct fs) => fs.toList.map (fun f => (f.offset, f.type)) | _ => []) = [(0, 3), (1, 3), (2, 3), (3, 3), (4, 4)] := by kernel_rfl
theorem queFields : ∃ f0 f1 f2 f3 f4 : Field, Tryd.prog.underlying 34 = some (.struct #[f0, f1, f2, f3, f4]) ∧ f0.offset = 0 ∧ f0.type = 3 ∧ f1.offset = 1 ∧ f1.type = 3 ∧ f2.offset = 2 ∧ f2.type = 3 ∧ f3.offset = 3 ∧ f3.type = 3 ∧ f4.offset = 4 ∧ f4.type = 4 := by
  have h := queShape
  cases hu : Tryd.prog.underlying 34 with
  | none => rw [hu] at h; simp at h
  | some u =>
    rw [hu] at h
    cases u <;> simp at h
    rename_i fs
    obtain ⟨l⟩ := fs
    match l, h with
    | [f0, f1, f2, f3, f4], h => simp at h; exact ⟨f0, f1, f2, f3, f4, rfl, by simp [h]⟩

theorem cellsI_que : Tryd.prog.cellsOf 3 = 1 := by kernel_rfl
theorem cellsB_que : Tryd.prog.cellsOf 4 = 1 := by kernel_rfl
theorem cellsQue : Tryd.prog.cellsOf 34 = 5 := by kernel_rfl

theorem open_ques {H : Type} {enc : TypeId × Value → H} {W : World} {sp : Nat → Bool} {hd : Bool} {fuel : Nat} {cs : List Value} {x : DataW H × List MemPlace}
    (h : DataW.trod enc Tryd.prog W 0 sp hd fuel 22 cs = some x) :
    ∃ A n c, cs = [.slice A n c] ∧ n ≤ c ∧ c ≤ maxLen ∧ ques W A n := by
  rcases Deep.open_slice Tryd.underlying22 h with ⟨rfl, _⟩ | ⟨a, len, cap, m, n, D, Pl, rfl, hb, hl, hm, hmm, rfl, hx⟩
  · exact ⟨none, 0, 0, rfl, Nat.le_refl _, by simp [maxLen], fun h => absurd h (by omega)⟩
  · refine ⟨some a, len, cap, rfl, hl, hm, fun hn => ?_⟩
    have hlm : len ≤ m := by rw [hmm]; split <;> omega
    obtain ⟨b, o, s⟩ := a
    have hs : s = none := by
      obtain ⟨cs', h1, h2⟩ := hx 0 (by omega)
      rw [cellsQue] at h1
      obtain ⟨_, hlen, hcell⟩ := World.cells?_some h1
      have c0 := hcell 0 (by omega)
      rw [List.getElem?_eq_getElem (by omega)] at c0
      have := World.cell?_spot c0
      simpa [Addr.add] using this
    subst hs
    have each : ∀ j, j < len → b < W.heap.size ∧ aQue W b (o + j * 5) := by
      intro j hj
      obtain ⟨cs', h1, h2⟩ := hx j (by omega)
      obtain ⟨f0, f1, f2, f3, f4, hu, o0, t0, o1, t1, o2, t2, o3, t3, o4, t4⟩ := queFields
      rw [cellsQue] at h1
      obtain ⟨_, hlen, hcell⟩ := World.cells?_some h1
      obtain ⟨xs, k, hk, hxy, _, hxl, hf⟩ := DataW.trod_struct hu h2
      have g0 := hf 0 f0 rfl
      rw [o0, t0, cellsI_que] at g0
      have g1 := hf 1 f1 rfl
      rw [o1, t1, cellsI_que] at g1
      have g2 := hf 2 f2 rfl
      rw [o2, t2, cellsI_que] at g2
      have g3 := hf 3 f3 rfl
      rw [o3, t3, cellsI_que] at g3
      have g4 := hf 4 f4 rfl
      rw [o4, t4, cellsB_que] at g4
      match xs, hxl, cs', hlen with
      | [y0, y1, y2, y3, y4], _, [v0, v1, v2, v3, v4], _ =>
        simp at g0 g1 g2 g3 g4
        obtain ⟨z0, e0, _, w0⟩ := DataW.trod_int Tryd.underlying3 g0
        simp at e0
        subst e0
        obtain ⟨z1, e1, _, w1⟩ := DataW.trod_int Tryd.underlying3 g1
        simp at e1
        subst e1
        obtain ⟨z2, e2, _, w2⟩ := DataW.trod_int Tryd.underlying3 g2
        simp at e2
        subst e2
        obtain ⟨z3, e3, _, w3⟩ := DataW.trod_int Tryd.underlying3 g3
        simp at e3
        subst e3
        obtain ⟨z4, e4, _⟩ := DataW.trod_bool Tryd.underlying4 g4
        simp at e4
        subst e4
        have c0 := hcell 0 (by omega)
        have c1 := hcell 1 (by omega)
        have c2 := hcell 2 (by omega)
        have c3 := hcell 3 (by omega)
        have c4 := hcell 4 (by omega)
        simp only [add_plain] at c0 c1 c2 c3 c4
        have hbs : b < W.heap.size := by simpa using World.block_lt_of_cell? W _ c0
        refine ⟨hbs, ?_⟩
        exact ⟨z0, z1, z2, z3, z4, by simpa using c0, by simpa using c1, by simpa using c2, by simpa using c3, by simpa using c4, w0, w1, w2, w3⟩
    exact ⟨b, o, rfl, (each 0 hn).1, fun j hj => (each j hj).2⟩
end Go.Proofs.YtmlmhnhilemjhaaDoor
end

section
namespace Go.Proofs.YtmlmhnhilemjhaaDoor
open Go.ChangeShapes Go.WideShapes Go.ChangeAt Go.WideMaps Go.WideElems Go.RowKit
set_option linter.unusedVariables false
set_option maxRecDepth 100000

abbrev laidL : List (String × DataW Unit) := [("sealchain/seal.sizes", Rows.laid_sealchain_seal_sizes)]
theorem gSizes : Tryd.prog.globalNamed "sealchain/seal.sizes" = some 0 := by kernel_rfl
theorem tSizes : (Tryd.prog.globals[0]?).map (·.type) = some 26 := by kernel_rfl
theorem cInt : Tryd.prog.cellsOf 3 = 1 := by kernel_rfl

theorem door_met (os : Os) (args : Array Value) : laidMetH Tryd.prog laidL ((World.doorLaid Tryd.prog 400 os).forCall (fun _ _ => 0) ⟨#[], args, []⟩).memory :=
  laidMetH_of_parts3 (fuel := 8) (laidMet_of_run' 8 (by kernel_rfl) (by kernel_rfl)) (by kernel_rfl) (by kernel_rfl)

theorem sizes_of_laid {W : World} (h : laidMetH Tryd.prog laidL W) : sizesAt W := by
  rw [MakeChecks.laidMetH_plain _ _ _ (by kernel_rfl)] at h
  obtain ⟨ps, ⟨g0, t0, cs0, f0, p0, q0, hg0, ht0, hv0, hd0, _⟩, _⟩ := h
  obtain rfl := Option.some.inj (gSizes.symm.trans hg0)
  obtain rfl := Option.some.inj (tSizes.symm.trans ht0)
  obtain ⟨xs, m1, rfl, hx1, hlen, hn3, hel⟩ := DataW.trod_array Tryd.underlying26 hd0
  have h0 := hel 0 (by decide)
  have h1 := hel 1 (by decide)
  have h2 := hel 2 (by decide)
  rw [cInt] at h0 h1 h2
  have e0 := World.var?_cell hg0 hv0 0
  have e1 := World.var?_cell hg0 hv0 1
  have e2 := World.var?_cell hg0 hv0 2
  simp only [Prod.mk.injEq, Rows.laid_sealchain_seal_sizes, DataW.agg.injEq] at hx1
  obtain ⟨l1⟩ := cs0
  match xs, hn3, hx1, h0, h1, h2 with
  | [x0, x1, x2], _, hx1, h0, h1, h2 =>
    simp only [List.map_cons, List.map_nil, List.cons.injEq] at hx1
    obtain ⟨k0, a0, b0, _⟩ := DataW.trod_int Tryd.underlying3 (show DataW.trod _ Tryd.prog W 0 _ false m1 3 _ = some x0 from h0)
    obtain ⟨k1, a1, b1, _⟩ := DataW.trod_int Tryd.underlying3 (show DataW.trod _ Tryd.prog W 0 _ false m1 3 _ = some x1 from h1)
    obtain ⟨k2, a2, b2, _⟩ := DataW.trod_int Tryd.underlying3 (show DataW.trod _ Tryd.prog W 0 _ false m1 3 _ = some x2 from h2)
    have q0 : k0 = 45 := by rw [b0] at hx1; simpa using hx1.1.1.symm
    have q1 : k1 = 93 := by rw [b1] at hx1; simpa using hx1.1.2.1.symm
    have q2 : k2 = 285 := by rw [b2] at hx1; simpa using hx1.1.2.2.1.symm
    subst q0 q1 q2
    have len3 : l1.length = 3 := by
      have hc3 : Tryd.prog.cellsOf 26 = 3 := by kernel_rfl
      have := hlen
      rw [hc3] at this
      simpa using this
    match l1, len3, a0, a1, a2 with
    | [c0, c1, c2], _, a0, a1, a2 =>
      simp at a0 a1 a2
      subst a0 a1 a2
      exact ⟨by simpa using e0, by simpa using e1, by simpa using e2⟩
end Go.Proofs.YtmlmhnhilemjhaaDoor
end
