/-
  GOTS: a list of what came of a sweep's deeds, as it came in, element by element. (Written by gen/gen_gots.py.)
-/
import Derived.Test.YtoejfgjdmcamaaaOpen
import Derived.Deep.Slices
import Derived.ChangeSame
namespace Go.Proofs.Ytoejfgjdmcamaaa
open Go.ChangeShapes Go.WideShapes Go.ChangeAt Go.RowKit
set_option linter.unusedVariables false

def aGot (w : World) (g o : Nat) : Prop :=
  ∃ (nx : Bool) (c : Int) (A : Option Addr) (n m : Nat) (t : Bool) (v f l : Int), w.cell? ⟨g, o, none⟩ = some (.bool nx) ∧ w.cell? ⟨g, o + 1, none⟩ = some (.int .i64 c) ∧ w.cell? ⟨g, o + 2, none⟩ = some (.slice A n m) ∧
    w.cell? ⟨g, o + 3, none⟩ = some (.bool t) ∧ w.cell? ⟨g, o + 4, none⟩ = some (.int .i64 v) ∧ w.cell? ⟨g, o + 5, none⟩ = some (.int .i64 f) ∧ w.cell? ⟨g, o + 6, none⟩ = some (.int .i64 l)
def gots (w : World) (A : Option Addr) (n : Nat) : Prop := 0 < n → ∃ g o, A = some ⟨g, o, none⟩ ∧ g < w.heap.size ∧ ∀ j, j < n → aGot w g (o + j * 7)
theorem goShape : (match Try.prog.underlying 38 with | some (.struct fs) => fs.toList.map (fun f => (f.offset, f.type)) | _ => []) = [(0, 4), (1, 36)] := by kernel_rfl
theorem goFields : ∃ f0 f1 : Field, Try.prog.underlying 38 = some (.struct #[f0, f1]) ∧ f0.offset = 0 ∧ f0.type = 4 ∧ f1.offset = 1 ∧ f1.type = 36 := by
  have h := goShape
  cases hu : Try.prog.underlying 38 with
  | none => rw [hu] at h; simp at h
  | some u =>
    rw [hu] at h
    cases u <;> simp at h
    rename_i fs
    obtain ⟨l⟩ := fs
    match l, h with
    | [f0, f1], h => simp at h; exact ⟨f0, f1, rfl, by simp [h]⟩
theorem gtShape : (match Try.prog.underlying 36 with | some (.struct fs) => fs.toList.map (fun f => (f.offset, f.type)) | _ => []) = [(0, 28), (1, 34), (2, 4), (3, 3), (4, 3), (5, 3)] := by kernel_rfl
theorem gtFields : ∃ f0 f1 f2 f3 f4 f5 : Field, Try.prog.underlying 36 = some (.struct #[f0, f1, f2, f3, f4, f5]) ∧ f0.offset = 0 ∧ f0.type = 28 ∧ f1.offset = 1 ∧ f1.type = 34 ∧ f2.offset = 2 ∧ f2.type = 4 ∧ f3.offset = 3 ∧ f3.type = 3 ∧ f4.offset = 4 ∧ f4.type = 3 ∧ f5.offset = 5 ∧ f5.type = 3 := by
  have h := gtShape
  cases hu : Try.prog.underlying 36 with
  | none => rw [hu] at h; simp at h
  | some u =>
    rw [hu] at h
    cases u <;> simp at h
    rename_i fs
    obtain ⟨l⟩ := fs
    match l, h with
    | [f0, f1, f2, f3, f4, f5], h => simp at h; exact ⟨f0, f1, f2, f3, f4, f5, rfl, by simp [h]⟩
theorem gtC0 : Try.prog.cellsOf 28 = 1 := by kernel_rfl
theorem gtC1 : Try.prog.cellsOf 34 = 1 := by kernel_rfl
theorem gtC2 : Try.prog.cellsOf 4 = 1 := by kernel_rfl
theorem gtC3 : Try.prog.cellsOf 3 = 1 := by kernel_rfl
theorem gtC : Try.prog.cellsOf 36 = 6 := by kernel_rfl
theorem goC : Try.prog.cellsOf 38 = 7 := by kernel_rfl

theorem open_gots {H : Type} {enc : TypeId × Value → H} {W : World} {sp : Nat → Bool} {hd : Bool} {fuel : Nat} {cs : List Value} {x : DataW H × List MemPlace}
    (h : DataW.trod enc Try.prog W 0 sp hd fuel 26 cs = some x) :
    ∃ A n c, cs = [.slice A n c] ∧ n ≤ c ∧ c ≤ maxLen ∧ gots W A n := by
  rcases Deep.open_slice Try.underlying26 h with ⟨rfl, _⟩ | ⟨a, len, cap, m, n, D, Pl, rfl, hb, hl, hm, hmm, rfl, hx⟩
  · exact ⟨none, 0, 0, rfl, Nat.le_refl _, by simp [maxLen], fun h => absurd h (by omega)⟩
  · refine ⟨some a, len, cap, rfl, hl, hm, fun hn => ?_⟩
    have hlm : len ≤ m := by rw [hmm]; split <;> omega
    obtain ⟨b, o, s⟩ := a
    have hs : s = none := by
      obtain ⟨cs', h1, h2⟩ := hx 0 (by omega)
      rw [goC] at h1
      obtain ⟨_, hlen, hcell⟩ := World.cells?_some h1
      have c0 := hcell 0 (by omega)
      rw [List.getElem?_eq_getElem (by omega)] at c0
      have := World.cell?_spot c0
      simpa [Addr.add] using this
    subst hs
    have each : ∀ j, j < len → b < W.heap.size ∧ aGot W b (o + j * 7) := by
      intro j hj
      obtain ⟨cs', h1, h2⟩ := hx j (by omega)
      obtain ⟨f0, f1, hu, o0, u0, o1, u1⟩ := goFields
      rw [goC] at h1
      obtain ⟨_, hlen, hcell⟩ := World.cells?_some h1
      obtain ⟨xs, k, hk, hxy, _, hxl, hf⟩ := DataW.trod_struct hu h2
      have q0 := hf 0 f0 rfl
      rw [o0, u0, gtC2] at q0
      have q1 := hf 1 f1 rfl
      rw [o1, u1, gtC] at q1
      match cs', hlen with
      | [v0, v1, v2, v3, v4, v5, v6], _ =>
        match xs, hxl with
        | [y0, y1], _ =>
          simp at q0 q1
          obtain ⟨z0, e0, _⟩ := DataW.trod_bool Try.underlying4 q0
          simp at e0
          subst e0
          obtain ⟨k0, k1, k2, k3, k4, k5, hu2, p0, t0, p1, t1, p2, t2, p3, t3, p4, t4, p5, t5⟩ := gtFields
          obtain ⟨xs2, kk2, hk2, hxy2, _, hxl2, hf2⟩ := DataW.trod_struct hu2 q1
          match xs2, hxl2 with
          | [r0, r1, r2, r3, r4, r5], _ =>
            have g0 := hf2 0 k0 rfl
            rw [p0, t0, gtC0] at g0
            have g1 := hf2 1 k1 rfl
            rw [p1, t1, gtC1] at g1
            have g2 := hf2 2 k2 rfl
            rw [p2, t2, gtC2] at g2
            have g3 := hf2 3 k3 rfl
            rw [p3, t3, gtC3] at g3
            have g4 := hf2 4 k4 rfl
            rw [p4, t4, gtC3] at g4
            have g5 := hf2 5 k5 rfl
            rw [p5, t5, gtC3] at g5
            simp at g0 g1 g2 g3 g4 g5
            obtain ⟨z1, e1, _, _⟩ := DataW.trod_int Try.underlying28 g0
            simp at e1
            subst e1
            obtain ⟨A2, n2, m2, e2⟩ : ∃ A n m, v2 = .slice A n m := by
              rcases Deep.open_slice Try.underlying34 g1 with ⟨hcs, _⟩ | ⟨a', len', cap', m', n', D', Pl', hcs, _⟩
              · simp at hcs; exact ⟨_, _, _, hcs⟩
              · simp at hcs; exact ⟨_, _, _, hcs⟩
            subst e2
            obtain ⟨z3, e3, _⟩ := DataW.trod_bool Try.underlying4 g2
            simp at e3
            subst e3
            obtain ⟨z4, e4, _, _⟩ := DataW.trod_int Try.underlying3 g3
            simp at e4
            subst e4
            obtain ⟨z5, e5, _, _⟩ := DataW.trod_int Try.underlying3 g4
            simp at e5
            subst e5
            obtain ⟨z6, e6, _, _⟩ := DataW.trod_int Try.underlying3 g5
            simp at e6
            subst e6
            have c0 := hcell 0 (by omega)
            have c1 := hcell 1 (by omega)
            have c2 := hcell 2 (by omega)
            have c3 := hcell 3 (by omega)
            have c4 := hcell 4 (by omega)
            have c5 := hcell 5 (by omega)
            have c6 := hcell 6 (by omega)
            simp only [add_plain] at c0 c1 c2 c3 c4 c5 c6
            have hbs : b < W.heap.size := by simpa using World.block_lt_of_cell? W _ c0
            exact ⟨hbs, z0, z1, A2, n2, m2, z3, z4, z5, z6, by simpa using c0, by simpa using c1, by simpa using c2, by simpa using c3, by simpa using c4, by simpa using c5, by simpa using c6⟩
    exact ⟨b, o, rfl, (each 0 hn).1, fun j hj => (each j hj).2⟩
end Go.Proofs.Ytoejfgjdmcamaaa
