/-
  VIEW: a list of seeds that came in as an argument, element by element.
-/
import Derived.Test.YtjipokilidhnoaaView1
import Derived.Test.YtjipokilidhnoaaOpen
import Derived.Deep.Slices
import Derived.ChangeSame
namespace Go.Proofs.Ytjipokilidhnoaa
open Go.ChangeShapes Go.WideShapes Go.ChangeAt Go.RowKit
set_option linter.unusedVariables false
set_option maxRecDepth 100000

/-- a seed, as it is told -/
structure SD where
  on : Int
  node : Int
  kind : Int
  b : List UInt8
/-- the value v is a slice that reads as the bytes l, in a block that is there -/
def argB (w : World) (v : Value) (l : List UInt8) : Prop :=
  ∃ (A : Option Addr) (c g : Nat), v = .slice A l.length c ∧ l.length ≤ c ∧ c ≤ maxLen ∧ seen w A g l ∧ (l ≠ [] → g < w.heap.size)
theorem argB.keep {w w' : World} {v : Value} {l : List UInt8} (h : argB w v l) (hk : keepBut [] w w') : argB w' v l := by
  obtain ⟨A, c, g, h1, h2, h3, h4, h5⟩ := h
  exact ⟨A, c, g, h1, h2, h3, h4.keep hk (by simp), fun hl => Nat.lt_of_lt_of_le (h5 hl) hk.size⟩
/-- one seed lies at o of block g -/
def sdAt (w : World) (g o : Nat) (d : SD) : Prop := ∃ v, argB w v d.b ∧ w.cell? ⟨g, o, none⟩ = some (.int .i64 d.on) ∧ w.cell? ⟨g, o + 1, none⟩ = some (.int .i64 d.node) ∧ w.cell? ⟨g, o + 2, none⟩ = some (.int .i64 d.kind) ∧ w.cell? ⟨g, o + 3, none⟩ = some v ∧
  (Lit.int .i64 d.on).wf = true ∧ (Lit.int .i64 d.node).wf = true ∧ (Lit.int .i64 d.kind).wf = true
def seedsV (w : World) (A : Option Addr) (l : List SD) : Prop := l ≠ [] → ∃ g o, A = some ⟨g, o, none⟩ ∧ g < w.heap.size ∧ ∀ i d, l[i]? = some d → sdAt w g (o + i * 4) d
theorem seedsV.keep {w w' : World} {A : Option Addr} {l : List SD} (h : seedsV w A l) (hk : keepBut [] w w') : seedsV w' A l := by
  intro hl
  obtain ⟨g, o, h1, h2, h3⟩ := h hl
  refine ⟨g, o, h1, Nat.lt_of_lt_of_le h2 hk.size, fun i d hd => ?_⟩
  obtain ⟨v, q1, q2, q3, q4, q5, q6⟩ := h3 i d hd
  have e := fun x => hk.cell (p := ⟨g, x, none⟩) h2 (by simp)
  exact ⟨v, q1.keep hk, (e _).trans q2, (e _).trans q3, (e _).trans q4, (e _).trans q5, q6⟩
theorem list_ofV {α : Type} {P : Nat → α → Prop} (n : Nat) (h : ∀ i, i < n → ∃ d, P i d) : ∃ l : List α, l.length = n ∧ ∀ i d, l[i]? = some d → P i d := by
  refine ⟨List.ofFn (fun i : Fin n => (h i i.2).choose), by simp, fun i d hd => ?_⟩
  rw [List.getElem?_ofFn] at hd
  split at hd
  · injection hd with hd
    rw [← hd]
    exact (h i ‹_›).choose_spec
  · cases hd
theorem sdShape : (match Try.prog.underlying 72 with | some (.struct fs) => fs.toList.map (fun f => (f.offset, f.type)) | _ => []) = [(0, 3), (1, 3), (2, 3), (3, 22)] := by kernel_rfl
theorem sdFields : ∃ f0 f1 f2 f3 : Field, Try.prog.underlying 72 = some (.struct #[f0, f1, f2, f3]) ∧ f0.offset = 0 ∧ f0.type = 3 ∧ f1.offset = 1 ∧ f1.type = 3 ∧ f2.offset = 2 ∧ f2.type = 3 ∧ f3.offset = 3 ∧ f3.type = 22 := by
  have h := sdShape
  cases hu : Try.prog.underlying 72 with
  | none => rw [hu] at h; simp at h
  | some u =>
    rw [hu] at h
    cases u <;> simp at h
    rename_i fs
    obtain ⟨l⟩ := fs
    match l, h with
    | [f0, f1, f2, f3], h => simp at h; exact ⟨f0, f1, f2, f3, rfl, by simp [h]⟩
theorem sdC0 : Try.prog.cellsOf 3 = 1 := by kernel_rfl
theorem sdC1 : Try.prog.cellsOf 22 = 1 := by kernel_rfl
theorem sdC2 : Try.prog.cellsOf 72 = 4 := by kernel_rfl
theorem open_argB {H : Type} {enc : TypeId × Value → H} {W : World} {d : Nat} {sp : Nat → Bool} {hd : Bool} {fuel : Nat} {v : Value} {x : DataW H × List MemPlace}
    (h : DataW.trod enc Try.prog W d sp hd fuel 22 [v] = some x) : ∃ l, argB W v l := by
  rcases open_ints Try.underlying22 Try.underlying5 (by kernel_rfl) h with ⟨hcs, _⟩ | ⟨x, l, c, zs, hcs, _, hl', hm', hz, _, hcl, hwz⟩
  · simp at hcs
    exact ⟨[], none, 0, 0, hcs, by simp, by simp [maxLen], seen.nil _ _ _, fun h => absurd rfl h⟩
  · simp at hcs
    have hzl : l ≤ zs.length := by rw [hz]; split <;> omega
    have hcl' : ∀ i, i < (zs.take l).length → W.cell? (x.add i) = some (.int .u8 ((zs.take l).getD i 0)) := by
      intro i hi
      rw [List.length_take] at hi
      rw [hcl i (by omega)]
      simp only [List.getD_eq_getElem?_getD, List.getElem?_take]
      rw [if_pos (by omega)]
    have hln : (zs.take l).length = l := by rw [List.length_take]; omega
    obtain ⟨g, hg, hr⟩ := reads_of_ints (k := .u8) (Nat.le_refl l) hln hcl'
    rw [List.take_of_length_le (by omega)] at hr
    have hbl : (bytesOf (zs.take l)).length = l := by rw [bytesOf_length]; exact hln
    have hs : seen W (some x) g (bytesOf (zs.take l)) := seen_of_reads hbl (by rw [bv_bytesOf _ (fun n hn => by have := hwz n (List.mem_of_mem_take hn); simpa [Lit.wf, IntKind.min, IntKind.max, IntKind.signed, IntKind.bits] using this)]; exact hr)
    refine ⟨bytesOf (zs.take l), some x, c, g, by rw [hbl]; exact hcs, by rw [hbl]; exact hl', hm', hs, fun hne => hg (by have := List.length_pos_iff.2 hne; omega)⟩
theorem open_seeds {H : Type} {enc : TypeId × Value → H} {W : World} {sp : Nat → Bool} {hd : Bool} {fuel : Nat} {cs : List Value} {x : DataW H × List MemPlace}
    (h : DataW.trod enc Try.prog W 0 sp hd fuel 23 cs = some x) :
    ∃ A c l, cs = [.slice A (l : List SD).length c] ∧ l.length ≤ c ∧ c ≤ maxLen ∧ seedsV W A l := by
  rcases Deep.open_slice Try.underlying23 h with ⟨rfl, _⟩ | ⟨a, len, cap, m, n, D, Pl, rfl, hb, hl, hm, hmm, rfl, hx⟩
  · exact ⟨none, 0, [], rfl, by simp, by simp [maxLen], fun h => absurd rfl h⟩
  · have hlm : len ≤ m := by rw [hmm]; split <;> omega
    obtain ⟨b, o, s⟩ := a
    by_cases hn : len = 0
    · subst hn
      exact ⟨_, cap, [], rfl, by simp, hm, fun h => absurd rfl h⟩
    have hs : s = none := by
      obtain ⟨cs', h1, h2⟩ := hx 0 (by omega)
      rw [sdC2] at h1
      obtain ⟨_, hlen, hcell⟩ := World.cells?_some h1
      have c0 := hcell 0 (by omega)
      rw [List.getElem?_eq_getElem (by omega)] at c0
      have := World.cell?_spot c0
      simpa [Addr.add] using this
    subst hs
    have each : ∀ j, j < len → ∃ d : SD, b < W.heap.size ∧ sdAt W b (o + j * 4) d := by
      intro j hj
      obtain ⟨cs', h1, h2⟩ := hx j (by omega)
      obtain ⟨f0, f1, f2, f3, hu, o0, u0, o1, u1, o2, u2, o3, u3⟩ := sdFields
      rw [sdC2] at h1
      obtain ⟨_, hlen, hcell⟩ := World.cells?_some h1
      obtain ⟨xs, k, hk, hxy, _, hxl, hf⟩ := DataW.trod_struct hu h2
      have q0 := hf 0 f0 rfl
      rw [o0, u0, sdC0] at q0
      have q1 := hf 1 f1 rfl
      rw [o1, u1, sdC0] at q1
      have q2 := hf 2 f2 rfl
      rw [o2, u2, sdC0] at q2
      have q3 := hf 3 f3 rfl
      rw [o3, u3, sdC1] at q3
      match cs', hlen with
      | [v0, v1, v2, v3], _ =>
        match xs, hxl with
        | [y0, y1, y2, y3], _ =>
          simp at q0 q1 q2 q3
          obtain ⟨z0, e0, _, w0⟩ := DataW.trod_int Try.underlying3 q0
          simp at e0
          subst e0
          obtain ⟨z1, e1, _, w1⟩ := DataW.trod_int Try.underlying3 q1
          simp at e1
          subst e1
          obtain ⟨z2, e2, _, w2⟩ := DataW.trod_int Try.underlying3 q2
          simp at e2
          subst e2
          obtain ⟨l3, hl3⟩ := open_argB q3
          have c0 := hcell 0 (by omega)
          have c1 := hcell 1 (by omega)
          have c2 := hcell 2 (by omega)
          have c3 := hcell 3 (by omega)
          simp only [add_plain] at c0 c1 c2 c3
          have hbs : b < W.heap.size := by simpa using World.block_lt_of_cell? W _ c0
          exact ⟨⟨z0, z1, z2, l3⟩, hbs, v3, hl3, by simpa using c0, by simpa using c1, by simpa using c2, by simpa using c3, w0, w1, w2⟩
    obtain ⟨l, hll, hlp⟩ := list_ofV len each
    refine ⟨some ⟨b, o, none⟩, cap, l, by rw [hll], by omega, hm, fun hne => ⟨b, o, rfl, ?_, fun i d hd => (hlp i d hd).2⟩⟩
    obtain ⟨d, hd⟩ : ∃ d, l[0]? = some d := ⟨_, List.getElem?_eq_getElem (by have := List.length_pos_iff.2 hne; omega)⟩
    exact (hlp 0 d hd).1
end Go.Proofs.Ytjipokilidhnoaa
