/-
  LeadCounts, what it stands on: a leader beside a row of its own.
-/
import Derived.Test.YtbjonlfjfjlelaaLeadNames
namespace Go.Proofs.Ytbjonlfjfjlelaa
open Go.RowKit
set_option linter.unusedVariables false
set_option maxRecDepth 100000

/-- a leader made since w0, and beside it the law's own row of three marks -/
def cOn (w0 w : World) (p : Nat) (F : List Nat) (g : Nat) (s : LS) (row : Array Value) : Prop := lOn w0 w p F s ∧ rowAt w g 59 row ∧ g ∉ F ∧ w0.heap.size ≤ g
theorem cOn.l {w0 w w' : World} {p g : Nat} {F : List Nat} {s s' : LS} {row : Array Value} (h : cOn w0 w p F g s row) (hl : lPost p F s' w w') : ∃ F', cOn w0 w' p F' g s' row := by
  obtain ⟨F', a, b, c⟩ := hl
  refine ⟨F', ⟨a, fun y hy => ?_, h.1.2.2.then b (fun y hy => .inr (h.1.2.1 y hy))⟩, b.row h.2.1 h.2.2.1, fun hm => ?_, h.2.2.2⟩
  · rcases c y hy with h1 | h1
    · exact h.1.2.1 y h1
    · exact Nat.le_trans h.1.2.2.size h1
  · rcases c g hm with h1 | h1
    · exact h.2.2.1 h1
    · have := h.2.1.lt; omega
theorem cOn.w {w0 w w' : World} {p g : Nat} {F : List Nat} {s s' : LS} {row : Array Value} {v : Value} {e : Ending} (h : cOn w0 w p F g s row) (hl : wPost p F s' v w e w') : e = .returned v ∧ cOn w0 w' p F g s' row := by
  obtain ⟨a, b⟩ := h.1.w hl
  exact ⟨a, b, hl.2.2.row h.2.1 (fun hm => h.2.2.1 (by rw [List.mem_singleton.1 hm]; exact h.1.1.mem)), h.2.2⟩
theorem cOn.over {w0 w w' : World} {p g : Nat} {F : List Nat} {s : LS} {row : Array Value} (h : cOn w0 w p F g s row) (hk : keepBut [] w w') : cOn w0 w' p F g s row :=
  ⟨h.1.over hk, hk.row h.2.1 (by simp), h.2.2⟩
theorem cOn.set {w0 w : World} {p g : Nat} {F : List Nat} {s : LS} {row : Array Value} (h : cOn w0 w p F g s row) (i : Nat) (u : Value) : cOn w0 (w.setCell ⟨g, i, none⟩ u) p F g s (row.setIfInBounds i u) := by
  have hk := (keepBut.refl [g] w).setCell ⟨g, i, none⟩ u (by simp)
  refine ⟨⟨h.1.1.keep hk (fun y hy hm => h.2.2.1 (by rw [← List.mem_singleton.1 hm]; exact hy)), h.1.2.1, h.1.2.2.then hk (fun y hy => .inr (by rw [List.mem_singleton.1 hy]; exact h.2.2.2))⟩, h.2.1.set i u, h.2.2⟩
theorem cOn.prop {w0 w w' : World} {p g : Nat} {F : List Nat} {s s' : LS} {row : Array Value} {c : CS} {er : Int} {e : Ending} (h : cOn w0 w p F g s row) (hp : propPost p F s' c er w e w') :
    ∃ A n F', e = .returned (.tuple #[.agg #[.int .i64 c.num, .int .i64 c.full, .slice A c.chain.length n], .int .i64 er]) ∧ cOn w0 w' p F' g s' row := by
  obtain ⟨cv, F', G, he, a, b, c', d, _⟩ := hp
  obtain ⟨A, n, gg, rfl, _⟩ := d
  obtain ⟨F2, h2⟩ := h.l ⟨F', a, b, c'⟩
  exact ⟨A, n, F2, he, h2⟩
theorem cOn.new {w0 w : World} {p : Nat} {F : List Nat} {s : LS} (h : lOn w0 w p F s) (row : Array Value) : cOn w0 (w.alloc (.cells row 59)) p F w.heap.size s row :=
  ⟨h.over ((keepBut.refl [] w).alloc _), rowAt.new w _ row, fun hm => Nat.lt_irrefl _ (h.1.lt _ hm), h.2.2.size⟩
theorem boundPost.out {c : CS} {b : Bool} {w w' : World} {e : Ending} (h : boundPost c b w e w') : ∃ A n, e = .returned (.tuple #[.agg #[.int .i64 c.num, .int .i64 c.full, .slice A c.chain.length n], .bool b]) ∧ keepBut [] w w' := by
  obtain ⟨cv, he, G, hh, hG, hk⟩ := h
  obtain ⟨A, n, g, rfl, _⟩ := hh
  exact ⟨A, n, he, hk⟩

def hadB (m who : Nat) : Bool := m / 2 ^ who % 2 == 1
def hadRow (m : Nat) : Array Value := #[.bool (hadB m 0), .bool (hadB m 1), .bool (hadB m 2)]
theorem hadRow_at (m who : Nat) (h : who < 3) : (hadRow m)[who]? = some (.bool (hadB m who)) := by
  match who, h with
  | 0, _ => rfl
  | 1, _ => rfl
  | 2, _ => rfl
theorem had_or : ∀ m : Nat, m ≤ 7 → ∀ who : Nat, who < 3 → ∀ i : Nat, i < 3 → hadB (orB m who) i = (hadB m i || who == i) := by decide
theorem hadRow_set (m who : Nat) (hm : m ≤ 7) (h : who < 3) : (hadRow m).setIfInBounds who (.bool true) = hadRow (orB m who) := by
  unfold hadRow
  rw [had_or m hm who h 0 (by omega), had_or m hm who h 1 (by omega), had_or m hm who h 2 (by omega)]
  match who, h with
  | 0, _ => simp
  | 1, _ => simp
  | 2, _ => simp
theorem cnt_or : ∀ m : Nat, m ≤ 7 → ∀ who : Nat, who < 3 → countOf (orB m who) = countOf m + (if hadB m who = true then 0 else 1) := by decide
theorem cnt_had : ∀ m : Nat, m ≤ 7 → ∀ who : Nat, who < 3 → hadB m who = true → 1 ≤ countOf m := by decide
theorem had_cases : ∀ m : Nat, m ≤ 7 → ∀ who : Nat, who < 3 → countOf m < 2 →
    (hadB m who = true ∧ countOf m = 1 ∧ countOf (orB m who) = 1) ∨ (hadB m who = false ∧ countOf m = 0 ∧ countOf (orB m who) = 1) ∨ (hadB m who = false ∧ countOf m = 1 ∧ countOf (orB m who) = 2) := by
  intro m hm who hw hc
  have h1 := cnt_or m hm who hw
  have h2 := cnt_had m hm who hw
  cases hb : hadB m who
  · rw [hb] at h1; simp at h1 ⊢; omega
  · rw [hb] at h1; have := h2 hb; simp at h1 ⊢; omega

/-- the leader that has the promises m -/
def pS (b id : Int) (m : Nat) : LS := if countOf m < 2 then ⟨id, 1, b, 1, m, [], false, CS.zero, 0⟩ else ⟨id, 2, b, 1, m, [], false, CS.zero, 0⟩
theorem pS_lt {b id : Int} {m : Nat} (h : countOf m < 2) : pS b id m = ⟨id, 1, b, 1, m, [], false, CS.zero, 0⟩ := if_pos h
theorem pS_ge {b id : Int} {m : Nat} (h : countOf m = 2) : pS b id m = ⟨id, 2, b, 1, m, [], false, CS.zero, 0⟩ := if_neg (by omega)
theorem pS_step (b id : Int) (m who : Nat) : LS.promise ⟨id, 1, b, 1, m, [], false, CS.zero, 0⟩ who b [] = (decide (2 ≤ countOf (orB m who)), 0, pS b id (orB m who)) := by
  unfold LS.promise LS.binds pS
  simp only [List.foldl_nil, ne_eq, not_true_eq_false, or_self, if_false]
  by_cases h : 2 ≤ countOf (orB m who)
  · have h2 : ¬ countOf (orB m who) < 2 := by omega
    simp [h, h2]
  · have h2 : countOf (orB m who) < 2 := by omega
    simp [h, h2]
def one10 : CS := ⟨1, 1, [10]⟩
/-- the leader that proposed, and has the yeses m2 -/
def yS (b id : Int) (m m2 : Nat) : LS := if countOf m2 < 2 then ⟨id, 2, b, 1, m, [], true, one10, m2⟩ else ⟨id, 2, b, 2, m, [], false, CS.zero, 0⟩
theorem yS_lt {b id : Int} {m m2 : Nat} (h : countOf m2 < 2) : yS b id m m2 = ⟨id, 2, b, 1, m, [], true, one10, m2⟩ := if_pos h
theorem yS_ge {b id : Int} {m m2 : Nat} (h : countOf m2 = 2) : yS b id m m2 = ⟨id, 2, b, 2, m, [], false, CS.zero, 0⟩ := if_neg (by omega)
theorem yS_step (b id : Int) (m m2 who : Nat) : LS.yes ⟨id, 2, b, 1, m, [], true, one10, m2⟩ who = (decide (2 ≤ countOf (orB m2 who)), yS b id m (orB m2 who)) := by
  unfold LS.yes yS
  by_cases h : 2 ≤ countOf (orB m2 who)
  · have h2 : ¬ countOf (orB m2 who) < 2 := by omega
    simp only [h, h2, if_false, decide_true, LS.withdraw]; rw [show wrap64 (one10.num + 1) = 2 by unfold wrap64; decide]
  · have h2 : countOf (orB m2 who) < 2 := by omega
    simp only [h, h2, if_true, decide_false]
def cntRel (w : World) (b id : Int) (p g M : Nat) (v12 v13 : Value) (wx : World) : Prop :=
  ∃ (i m : Nat) (F : List Nat), i ≤ M ∧ i ≤ 20 ∧ m ≤ 7 ∧ countOf m ≤ 2 ∧ v12 = .int .i64 (countOf m : Int) ∧ v13 = .int .i64 (i : Int) ∧ cOn w wx p F g (pS b id m) (hadRow m)
def cntRel2 (w : World) (b id : Int) (m p g M : Nat) (v12 v21 : Value) (wx : World) : Prop :=
  ∃ (i m2 : Nat) (F : List Nat), i ≤ M ∧ i ≤ 20 ∧ m2 ≤ 7 ∧ countOf m2 ≤ 2 ∧ v12 = .int .i64 (countOf m2 : Int) ∧ v21 = .int .i64 (i : Int) ∧ cOn w wx p F g (yS b id m m2) (hadRow m2)
end Go.Proofs.Ytbjonlfjfjlelaa
