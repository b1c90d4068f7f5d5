/-
  LEADDOS: a list of calls of a leader that came in as an argument, element by element.
-/
import Derived.Test.YtbjonlfjfjlelaaLead5
import Derived.Deep.Slices
import Derived.ChangeSame
namespace Go.Proofs.Ytbjonlfjfjlelaa
open Go.ChangeShapes Go.WideShapes Go.ChangeAt Go.RowKit
set_option linter.unusedVariables false
set_option maxRecDepth 100000

/-- the value v is a slice that reads as the numbers l -/
def argI (w : World) (v : Value) (l : List Int) : Prop :=
  ∃ (A : Option Addr) (c g : Nat), v = .slice A l.length c ∧ l.length ≤ c ∧ c ≤ maxLen ∧ reads w A g l.length 1 (cellsK .i64 l) ∧ (l ≠ [] → g < w.heap.size)
/-- at A stand the votes l -/
def argV (w : World) (A : Option Addr) (l : List VS) : Prop :=
  l ≠ [] → ∃ g o, A = some ⟨g, o, none⟩ ∧ g < w.heap.size ∧ ∀ i d, l[i]? = some d → ∃ cv, argI w cv d.c.chain ∧
    w.cell? ⟨g, o + i * 4, none⟩ = some (.int .i64 d.bal) ∧ w.cell? ⟨g, o + i * 4 + 1, none⟩ = some (.int .i64 d.c.num) ∧ w.cell? ⟨g, o + i * 4 + 2, none⟩ = some (.int .i64 d.c.full) ∧ w.cell? ⟨g, o + i * 4 + 3, none⟩ = some cv
theorem argI.keep {w w' : World} {v : Value} {l : List Int} (h : argI w v l) (hk : keepBut [] w w') : argI w' v l := by
  obtain ⟨A, c, g, h1, h2, h3, h4, h5⟩ := h
  exact ⟨A, c, g, h1, h2, h3, h4.keep hk (by simp), fun hl => Nat.lt_of_lt_of_le (h5 hl) hk.size⟩
theorem argV.keep {w w' : World} {A : Option Addr} {l : List VS} (h : argV w A l) (hk : keepBut [] w w') : argV w' A l := by
  intro hl
  obtain ⟨g, o, h1, h2, h3⟩ := h hl
  refine ⟨g, o, h1, Nat.lt_of_lt_of_le h2 hk.size, fun i d hd => ?_⟩
  obtain ⟨cv, q1, q2, q3, q4, q5⟩ := h3 i d hd
  have e := fun o => hk.cell (p := ⟨g, o, none⟩) h2 (by simp)
  exact ⟨cv, q1.keep hk, (e _).trans q2, (e _).trans q3, (e _).trans q4, (e _).trans q5⟩
theorem list_of {α : Type} {P : Nat → α → Prop} (n : Nat) (h : ∀ i, i < n → ∃ d, P i d) : ∃ l : List α, l.length = n ∧ ∀ i d, l[i]? = some d → P i d := by
  refine ⟨List.ofFn (fun i : Fin n => (h i i.2).choose), by simp, fun i d hd => ?_⟩
  rw [List.getElem?_ofFn] at hd
  split at hd
  · injection hd with hd
    rw [← hd]
    exact (h i ‹_›).choose_spec
  · cases hd
/-- one call lies at o of block g -/
def lDo (w : World) (g o : Nat) : Prop :=
  ∃ (k a b n : Int) (near : Bool) (num full : Int) (cv : Value) (cl : List Int) (A8 : Option Addr) (c8 : Nat) (vl : List VS),
    w.cell? ⟨g, o, none⟩ = some (.int .i64 k) ∧ w.cell? ⟨g, o + 1, none⟩ = some (.int .i64 a) ∧ w.cell? ⟨g, o + 2, none⟩ = some (.int .i64 b) ∧ w.cell? ⟨g, o + 3, none⟩ = some (.int .i64 n) ∧ w.cell? ⟨g, o + 4, none⟩ = some (.bool near) ∧
    w.cell? ⟨g, o + 5, none⟩ = some (.int .i64 num) ∧ w.cell? ⟨g, o + 6, none⟩ = some (.int .i64 full) ∧ w.cell? ⟨g, o + 7, none⟩ = some cv ∧ w.cell? ⟨g, o + 8, none⟩ = some (.slice A8 vl.length c8) ∧
    (Lit.int .i64 k).wf = true ∧ (Lit.int .i64 a).wf = true ∧ argI w cv cl ∧ vl.length ≤ c8 ∧ c8 ≤ maxLen ∧ argV w A8 vl
def lDos (w : World) (A : Option Addr) (n : Nat) : Prop := 0 < n → ∃ g o, A = some ⟨g, o, none⟩ ∧ g < w.heap.size ∧ ∀ j, j < n → lDo w g (o + j * 9)

theorem ldShape : (match Try.prog.underlying 58 with | some (.struct fs) => fs.toList.map (fun f => (f.offset, f.type)) | _ => []) = [(0, 3), (1, 3), (2, 3), (3, 3), (4, 4), (5, 55), (8, 56)] := by kernel_rfl
theorem ldFields : ∃ f0 f1 f2 f3 f4 f5 f6 : Field, Try.prog.underlying 58 = some (.struct #[f0, f1, f2, f3, f4, f5, f6]) ∧ f0.offset = 0 ∧ f0.type = 3 ∧ f1.offset = 1 ∧ f1.type = 3 ∧ f2.offset = 2 ∧ f2.type = 3 ∧ f3.offset = 3 ∧ f3.type = 3 ∧ f4.offset = 4 ∧ f4.type = 4 ∧ f5.offset = 5 ∧ f5.type = 55 ∧ f6.offset = 8 ∧ f6.type = 56 := by
  have h := ldShape
  cases hu : Try.prog.underlying 58 with
  | none => rw [hu] at h; simp at h
  | some u =>
    rw [hu] at h
    cases u <;> simp at h
    rename_i fs
    obtain ⟨l⟩ := fs
    match l, h with
    | [f0, f1, f2, f3, f4, f5, f6], h => simp at h; exact ⟨f0, f1, f2, f3, f4, f5, f6, rfl, by simp [h]⟩
theorem lcShape : (match Try.prog.underlying 55 with | some (.struct fs) => fs.toList.map (fun f => (f.offset, f.type)) | _ => []) = [(0, 3), (1, 3), (2, 53)] := by kernel_rfl
theorem lcFields : ∃ f0 f1 f2 : Field, Try.prog.underlying 55 = some (.struct #[f0, f1, f2]) ∧ f0.offset = 0 ∧ f0.type = 3 ∧ f1.offset = 1 ∧ f1.type = 3 ∧ f2.offset = 2 ∧ f2.type = 53 := by
  have h := lcShape
  cases hu : Try.prog.underlying 55 with
  | none => rw [hu] at h; simp at h
  | some u =>
    rw [hu] at h
    cases u <;> simp at h
    rename_i fs
    obtain ⟨l⟩ := fs
    match l, h with
    | [f0, f1, f2], h => simp at h; exact ⟨f0, f1, f2, rfl, by simp [h]⟩
theorem lvShape : (match Try.prog.underlying 78 with | some (.struct fs) => fs.toList.map (fun f => (f.offset, f.type)) | _ => []) = [(0, 3), (1, 55)] := by kernel_rfl
theorem lvFields : ∃ f0 f1 : Field, Try.prog.underlying 78 = some (.struct #[f0, f1]) ∧ f0.offset = 0 ∧ f0.type = 3 ∧ f1.offset = 1 ∧ f1.type = 55 := by
  have h := lvShape
  cases hu : Try.prog.underlying 78 with
  | none => rw [hu] at h; simp at h
  | some u =>
    rw [hu] at h
    cases u <;> simp at h
    rename_i fs
    obtain ⟨l⟩ := fs
    match l, h with
    | [f0, f1], h => simp at h; exact ⟨f0, f1, rfl, by simp [h]⟩
theorem ldC0 : Try.prog.cellsOf 3 = 1 := by kernel_rfl
theorem ldC1 : Try.prog.cellsOf 4 = 1 := by kernel_rfl
theorem ldC2 : Try.prog.cellsOf 55 = 3 := by kernel_rfl
theorem ldC3 : Try.prog.cellsOf 53 = 1 := by kernel_rfl
theorem ldC4 : Try.prog.cellsOf 78 = 4 := by kernel_rfl
theorem ldC5 : Try.prog.cellsOf 56 = 1 := by kernel_rfl
theorem ldC6 : Try.prog.cellsOf 58 = 9 := by kernel_rfl

theorem open_argI {H : Type} {enc : TypeId × Value → H} {W : World} {d : Nat} {sp : Nat → Bool} {hd : Bool} {fuel : Nat} {v : Value} {x : DataW H × List MemPlace}
    (h : DataW.trod enc Try.prog W d sp hd fuel 53 [v] = some x) : ∃ l, argI W v l := by
  rcases open_ints Try.underlying53 Try.underlying3 (by kernel_rfl) h with ⟨hcs, _⟩ | ⟨x, l, c, zs, hcs, _, hl', hm', hz, _, hcl, hwz⟩
  · simp at hcs
    exact ⟨[], none, 0, 0, hcs, by simp, by simp [maxLen], ⟨by simp [cellsK], fun h => absurd h (by simp)⟩, fun h => absurd rfl h⟩
  · simp at hcs
    have hzl : l ≤ zs.length := by rw [hz]; split <;> omega
    have hcl' : ∀ i, i < (zs.take l).length → W.cell? (x.add i) = some (.int .i64 ((zs.take l).getD i 0)) := by
      intro i hi
      rw [List.length_take] at hi
      rw [hcl i (by omega)]
      simp only [List.getD_eq_getElem?_getD, List.getElem?_take]
      rw [if_pos (by omega)]
    have hln : (zs.take l).length = l := by rw [List.length_take]; omega
    obtain ⟨g, hg, hr⟩ := reads_of_ints (k := .i64) (Nat.le_refl l) hln hcl'
    rw [List.take_of_length_le (by omega)] at hr
    refine ⟨zs.take l, some x, c, g, by rw [hln]; exact hcs, by rw [hln]; exact hl', hm', by rw [hln]; exact hr, fun hne => hg (by have := List.length_pos_iff.2 hne; omega)⟩
theorem open_conf {H : Type} {enc : TypeId × Value → H} {W : World} {d : Nat} {sp : Nat → Bool} {hd : Bool} {fuel : Nat} {v0 v1 v2 : Value} {x : DataW H × List MemPlace}
    (h : DataW.trod enc Try.prog W d sp hd fuel 55 [v0, v1, v2] = some x) : ∃ (n f : Int) (l : List Int), v0 = .int .i64 n ∧ v1 = .int .i64 f ∧ argI W v2 l := by
  obtain ⟨f0, f1, f2, hu, o0, t0, o1, t1, o2, t2⟩ := lcFields
  obtain ⟨xs, k, hk, hxy, _, hxl, hf⟩ := DataW.trod_struct hu h
  match xs, hxl with
  | [y0, y1, y2], _ =>
    have g0 := hf 0 f0 rfl
    rw [o0, t0, ldC0] at g0
    have g1 := hf 1 f1 rfl
    rw [o1, t1, ldC0] at g1
    have g2 := hf 2 f2 rfl
    rw [o2, t2, ldC3] at g2
    simp at g0 g1 g2
    obtain ⟨z0, e0, _, _⟩ := DataW.trod_int Try.underlying3 g0
    simp at e0
    obtain ⟨z1, e1, _, _⟩ := DataW.trod_int Try.underlying3 g1
    simp at e1
    obtain ⟨l, hl⟩ := open_argI g2
    exact ⟨z0, z1, l, e0, e1, hl⟩
theorem open_argV {H : Type} {enc : TypeId × Value → H} {W : World} {d : Nat} {sp : Nat → Bool} {hd : Bool} {fuel : Nat} {v : Value} {x : DataW H × List MemPlace}
    (h : DataW.trod enc Try.prog W d sp hd fuel 56 [v] = some x) : ∃ (A : Option Addr) (c : Nat) (l : List VS), v = .slice A l.length c ∧ l.length ≤ c ∧ c ≤ maxLen ∧ argV W A l := by
  rcases Deep.open_slice Try.underlying56 h with ⟨hv, _⟩ | ⟨a, len, cap, m, n, D, Pl, hv, hb, hl, hm, hmm, _, hx⟩
  · simp at hv
    exact ⟨none, 0, [], hv, by simp, by simp [maxLen], fun h => absurd rfl h⟩
  · simp at hv
    have hlm : len ≤ m := by rw [hmm]; split <;> omega
    obtain ⟨b, o, s⟩ := a
    by_cases hn : len = 0
    · subst hn
      exact ⟨_, cap, [], hv, by simp, hm, fun h => absurd rfl h⟩
    have hs : s = none := by
      obtain ⟨cs', h1, h2⟩ := hx 0 (by omega)
      rw [ldC4] at h1
      obtain ⟨_, hlen, hcell⟩ := World.cells?_some h1
      have c0 := hcell 0 (by omega)
      rw [List.getElem?_eq_getElem (by omega)] at c0
      have := World.cell?_spot c0
      simpa [Addr.add] using this
    subst hs
    have each : ∀ j, j < len → ∃ d : VS, b < W.heap.size ∧ ∃ cv, argI W cv d.c.chain ∧
        W.cell? ⟨b, o + j * 4, none⟩ = some (.int .i64 d.bal) ∧ W.cell? ⟨b, o + j * 4 + 1, none⟩ = some (.int .i64 d.c.num) ∧ W.cell? ⟨b, o + j * 4 + 2, none⟩ = some (.int .i64 d.c.full) ∧ W.cell? ⟨b, o + j * 4 + 3, none⟩ = some cv := by
      intro j hj
      obtain ⟨cs', h1, h2⟩ := hx j (by omega)
      obtain ⟨f0, f1, hu, o0, u0, o1, u1⟩ := lvFields
      rw [ldC4] at h1
      obtain ⟨_, hlen, hcell⟩ := World.cells?_some h1
      obtain ⟨xs, k, hk, hxy, _, hxl, hf⟩ := DataW.trod_struct hu h2
      have q0 := hf 0 f0 rfl
      rw [o0, u0, ldC0] at q0
      have q1 := hf 1 f1 rfl
      rw [o1, u1, ldC2] at q1
      match cs', hlen with
      | [v0, v1, v2, v3], _ =>
        match xs, hxl with
        | [y0, y1], _ =>
          simp at q0 q1
          obtain ⟨z0, e0, _, _⟩ := DataW.trod_int Try.underlying3 q0
          simp at e0
          subst e0
          obtain ⟨z1, z2, l3, rfl, rfl, hl3⟩ := open_conf q1
          have c0 := hcell 0 (by omega)
          have c1 := hcell 1 (by omega)
          have c2 := hcell 2 (by omega)
          have c3 := hcell 3 (by omega)
          simp only [add_plain] at c0 c1 c2 c3
          have hbs : b < W.heap.size := by simpa using World.block_lt_of_cell? W _ c0
          exact ⟨⟨z0, z1, z2, l3⟩, hbs, v3, hl3, by simpa using c0, by simpa using c1, by simpa using c2, by simpa using c3⟩
    obtain ⟨l, hll, hlp⟩ := list_of len each
    refine ⟨some ⟨b, o, none⟩, cap, l, by rw [hll]; exact hv, by omega, hm, fun hne => ⟨b, o, rfl, ?_, fun i d hd => (hlp i d hd).2⟩⟩
    obtain ⟨d, hd⟩ : ∃ d, l[0]? = some d := ⟨_, List.getElem?_eq_getElem (by omega)⟩
    exact (hlp 0 d hd).1

theorem open_lDos {H : Type} {enc : TypeId × Value → H} {W : World} {sp : Nat → Bool} {hd : Bool} {fuel : Nat} {cs : List Value} {x : DataW H × List MemPlace}
    (h : DataW.trod enc Try.prog W 0 sp hd fuel 45 cs = some x) :
    ∃ A n c, cs = [.slice A n c] ∧ n ≤ c ∧ c ≤ maxLen ∧ lDos W A n := by
  rcases Deep.open_slice Try.underlying45 h with ⟨rfl, _⟩ | ⟨a, len, cap, m, n, D, Pl, rfl, hb, hl, hm, hmm, rfl, hx⟩
  · exact ⟨none, 0, 0, rfl, Nat.le_refl _, by simp [maxLen], fun h => absurd h (by omega)⟩
  · refine ⟨some a, len, cap, rfl, hl, hm, fun hn => ?_⟩
    have hlm : len ≤ m := by rw [hmm]; split <;> omega
    obtain ⟨b, o, s⟩ := a
    have hs : s = none := by
      obtain ⟨cs', h1, h2⟩ := hx 0 (by omega)
      rw [ldC6] at h1
      obtain ⟨_, hlen, hcell⟩ := World.cells?_some h1
      have c0 := hcell 0 (by omega)
      rw [List.getElem?_eq_getElem (by omega)] at c0
      have := World.cell?_spot c0
      simpa [Addr.add] using this
    subst hs
    have each : ∀ j, j < len → b < W.heap.size ∧ lDo W b (o + j * 9) := by
      intro j hj
      obtain ⟨cs', h1, h2⟩ := hx j (by omega)
      obtain ⟨f0, f1, f2, f3, f4, f5, f6, hu, o0, u0, o1, u1, o2, u2, o3, u3, o4, u4, o5, u5, o6, u6⟩ := ldFields
      rw [ldC6] at h1
      obtain ⟨_, hlen, hcell⟩ := World.cells?_some h1
      obtain ⟨xs, k, hk, hxy, _, hxl, hf⟩ := DataW.trod_struct hu h2
      have q0 := hf 0 f0 rfl
      rw [o0, u0, ldC0] at q0
      have q1 := hf 1 f1 rfl
      rw [o1, u1, ldC0] at q1
      have q2 := hf 2 f2 rfl
      rw [o2, u2, ldC0] at q2
      have q3 := hf 3 f3 rfl
      rw [o3, u3, ldC0] at q3
      have q4 := hf 4 f4 rfl
      rw [o4, u4, ldC1] at q4
      have q5 := hf 5 f5 rfl
      rw [o5, u5, ldC2] at q5
      have q6 := hf 6 f6 rfl
      rw [o6, u6, ldC5] at q6
      match cs', hlen with
      | [v0, v1, v2, v3, v4, v5, v6, v7, v8], _ =>
        match xs, hxl with
        | [y0, y1, y2, y3, y4, y5, y6], _ =>
          simp at q0 q1 q2 q3 q4 q5 q6
          obtain ⟨z0, e0, _, w0⟩ := DataW.trod_int Try.underlying3 q0
          simp at e0
          subst e0
          obtain ⟨z1, e1, _, w1⟩ := DataW.trod_int Try.underlying3 q1
          simp at e1
          subst e1
          obtain ⟨z2, e2, _, _⟩ := DataW.trod_int Try.underlying3 q2
          simp at e2
          subst e2
          obtain ⟨z3, e3, _, _⟩ := DataW.trod_int Try.underlying3 q3
          simp at e3
          subst e3
          obtain ⟨z4, e4, _⟩ := DataW.trod_bool Try.underlying4 q4
          simp at e4
          subst e4
          obtain ⟨z5, z6, l7, rfl, rfl, hl7⟩ := open_conf q5
          obtain ⟨A8, c8, l8, rfl, h81, h82, h83⟩ := open_argV q6
          have c0 := hcell 0 (by omega)
          have c1 := hcell 1 (by omega)
          have c2 := hcell 2 (by omega)
          have c3 := hcell 3 (by omega)
          have c4 := hcell 4 (by omega)
          have c5 := hcell 5 (by omega)
          have c6 := hcell 6 (by omega)
          have c7 := hcell 7 (by omega)
          have c8' := hcell 8 (by omega)
          simp only [add_plain] at c0 c1 c2 c3 c4 c5 c6 c7 c8'
          have hbs : b < W.heap.size := by simpa using World.block_lt_of_cell? W _ c0
          exact ⟨hbs, z0, z1, z2, z3, z4, z5, z6, v7, l7, A8, c8, l8, by simpa using c0, by simpa using c1, by simpa using c2, by simpa using c3, by simpa using c4, by simpa using c5, by simpa using c6, by simpa using c7, by simpa using c8', w0, w1, hl7, h81, h82, h83⟩
    exact ⟨b, o, rfl, (each 0 hn).1, fun j hj => (each j hj).2⟩
end Go.Proofs.Ytbjonlfjfjlelaa
