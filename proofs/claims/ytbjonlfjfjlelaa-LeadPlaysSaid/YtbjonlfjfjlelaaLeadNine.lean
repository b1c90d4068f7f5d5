/-
  LEAD: the law's own step, Propose whatever it answers; cells that may be written.
-/
import Derived.Test.YtbjonlfjfjlelaaLeadStep0
namespace Go.Proofs.Ytbjonlfjfjlelaa
open Go.RowKit
set_option linter.unusedVariables false
set_option maxRecDepth 100000

/-- n cells from A on are there, in blocks of C, and may be written -/
def canNine (w : World) (A : Option Addr) (n : Nat) (C : List Nat) : Prop := 0 < n → ∃ g o, A = some ⟨g, o, none⟩ ∧ g ∈ C ∧ ∀ j, j < n → ∃ u : Int, w.cell? ⟨g, o + j, none⟩ = some (.int .i64 u) ∧ w.frozen? ⟨g, o + j, none⟩ = false
theorem held.canNine {w : World} {G C : List Nat} {A : Option Addr} {l : List Int} {n : Nat} (h : held w G (.slice A l.length n) l) (hz : unfz w G) (hG : ∀ y ∈ G, y ∈ C) : canNine w A l.length C := by
  intro hn
  obtain ⟨A', c, g, e, h2, h3, h4, h5, h6⟩ := h
  injection e with e1 _ _
  subst e1
  obtain ⟨o, e1, e2, e3⟩ := h5.2 hn
  have hg := h6 (by rintro rfl; simp at hn)
  refine ⟨g, o, e1, hG g hg, fun j hj => ⟨l[j]'hj, ?_, hz g hg _⟩⟩
  apply e3
  simp [cellsK, hj]
theorem canNine.keep {S : List Nat} {w w' : World} {A : Option Addr} {n : Nat} {C : List Nat} (h : canNine w A n C) (hk : keepBut S w w') (hS : ∀ y ∈ C, y ∉ S) : canNine w' A n C := by
  intro hn
  obtain ⟨g, o, e1, e2, e3⟩ := h hn
  refine ⟨g, o, e1, e2, fun j hj => ?_⟩
  obtain ⟨u, a, b⟩ := e3 j hj
  have hlt := World.block_lt_of_cell? w _ a
  have hb := hk.block g hlt (hS g e2)
  refine ⟨u, (hk.cell (p := ⟨g, o + j, none⟩) hlt (hS g e2)).trans a, ?_⟩
  rw [← b]
  simp only [World.frozen?, hb]
theorem canNine.set {w : World} {g o n i : Nat} {C : List Nat} (h : canNine w (some ⟨g, o, none⟩) n C) (hi : i < n) : canNine (w.setCell ⟨g, o + i, none⟩ (.int .i64 (-9))) (some ⟨g, o, none⟩) n C := by
  intro hn
  obtain ⟨g', o', e1, e2, e3⟩ := h hn
  injection e1 with e1
  injection e1 with ea eb _
  subst ea eb
  refine ⟨g, o, rfl, e2, fun j hj => ?_⟩
  obtain ⟨u, a, b⟩ := e3 j hj
  by_cases hji : j = i
  · subst hji
    exact ⟨-9, by rw [World.cell?_setCell_same' _ _ _ (by rw [a]; rfl)], by rw [World.frozen?_setCell]; exact b⟩
  · refine ⟨u, ?_, by rw [World.frozen?_setCell]; exact b⟩
    rw [World.cell?_setCell_other]
    · exact a
    · intro e; injection e with e1 e2; omega
theorem held.none {w : World} {F : List Nat} {v : Value} (h : held w F v []) : held w [] v [] := by
  obtain ⟨A, c, g, e, h2, h3, h4, h5, _⟩ := h
  exact ⟨A, c, g, e, h2, h3, h4, h5, fun h => absurd rfl h⟩
theorem propL_all (p : Nat) (F Gc : List Nat) (s : LS) (c : CS) (cv : Value) (w : World) (h : isL w p F s) (hc : held w Gc cv c.chain) (hGc : ∀ y ∈ Gc, y ∉ F ∧ y < w.heap.size) :
    Calls Try.prog 45 #[.pointer (some ⟨p, 0, none⟩), .agg #[.int .i64 c.num, .int .i64 c.full, cv]] w (propFree p F (s.propose c).2.2 (s.propose c).2.1 (s.propose c).1 w) := by
  by_cases a : s.ph ≠ 2 ∨ s.pend = true
  · have e : s.propose c = (170, CS.zero, s) := by unfold LS.propose; rw [if_pos a]
    rw [e]
    obtain ⟨A, n, g, rfl, hr⟩ := id hc
    refine (propose_no p F s c A c.chain.length n w h 170 (.inl ⟨a, rfl⟩)).mono ?_
    rintro e w' ⟨cv, F', G, he, i, k, f, hh, hG⟩
    exact ⟨cv, F', [], he, i, k, f, held.none (show held w' G cv [] from hh), by simp, by intro y hy; simp at hy⟩
  · have a1 : s.ph = 2 := Classical.byContradiction fun e => a (.inl e)
    have a2 : s.pend = false := by cases e : s.pend with | false => rfl | true => exact absurd (.inr e) a
    by_cases b : c.num < s.frm
    · have e : s.propose c = (2, CS.zero, s) := by unfold LS.propose; rw [if_neg a, if_pos b]
      rw [e]
      obtain ⟨A, n, g, rfl, hr⟩ := id hc
      refine (propose_no p F s c A c.chain.length n w h 2 (.inr ⟨a1, a2, b, rfl⟩)).mono ?_
      rintro e w' ⟨cv, F', G, he, i, k, f, hh, hG⟩
      exact ⟨cv, F', [], he, i, k, f, held.none (show held w' G cv [] from hh), by simp, by intro y hy; simp at hy⟩
    · have e : (s.propose c).1 = 0 := by unfold LS.propose; rw [if_neg a, if_neg b]
      rw [e]
      exact propose_free p F Gc s c cv w h hc hGc a1 a2 (by omega)
theorem propM_all (q : Nat) (G Gc : List Nat) (s : LS) (c : CS) (cv : Value) (w : World) (h : isM w q G s) (hc : held w Gc cv c.chain) (hGc : ∀ y ∈ Gc, y ∉ G ∧ y < w.heap.size) (hno : s.pend = false → s.acc = 0) (hT : s.bound.length ≤ 100000) :
    Calls Try.prog 69 #[.pointer (some ⟨q, 0, none⟩), .agg #[.int .i64 c.num, .int .i64 c.full, cv]] w (propMPost q G (s.propose c).2.2 (s.propose c).2.1 (s.propose c).1 w) := by
  by_cases a : s.ph ≠ 2 ∨ s.pend = true
  · have e : s.propose c = (170, CS.zero, s) := by unfold LS.propose; rw [if_pos a]
    rw [e]
    obtain ⟨A, n, g, rfl, hr⟩ := id hc
    exact proposeM_no q G s c A c.chain.length n w h 170 (.inl ⟨a, rfl⟩)
  · have a1 : s.ph = 2 := Classical.byContradiction fun e => a (.inl e)
    have a2 : s.pend = false := by cases e : s.pend with | false => rfl | true => exact absurd (.inr e) a
    by_cases b : c.num < s.frm
    · have e : s.propose c = (2, CS.zero, s) := by unfold LS.propose; rw [if_neg a, if_pos b]
      rw [e]
      obtain ⟨A, n, g, rfl, hr⟩ := id hc
      exact proposeM_no q G s c A c.chain.length n w h 2 (.inr ⟨a1, a2, b, rfl⟩)
    · have e : (s.propose c).1 = 0 := by unfold LS.propose; rw [if_neg a, if_neg b]
      rw [e]
      exact proposeM_yes q G Gc s c cv w h hc hGc a1 a2 (by omega) (hno a2) hT
/-- more blocks are the law's own -/
theorem both.add {w0 w : World} {p q : Nat} {F G E E' : List Nat} {s t : LS} (h : both w0 w p F s q G t E) (hE : ∀ y ∈ E', y ∈ E ∨ (y ∉ F ∧ y ∉ G ∧ w0.heap.size ≤ y ∧ y < w.heap.size)) : both w0 w p F s q G t E' :=
  ⟨h.l, h.m, h.lF, h.mG, h.ap, fun y hy => (hE y hy).elim (h.eF y) (fun e => e.1), fun y hy => (hE y hy).elim (h.eG y) (fun e => e.2.1), fun y hy => (hE y hy).elim (h.eB y) (fun e => e.2.2), h.kept⟩
theorem both.de {w0 w w' : World} {p q : Nat} {F F' G E : List Nat} {s s' t : LS} (h : both w0 w p F s q G t E) (a : isL w' p F' s') (b : keepBut F w w') (c : ∀ y ∈ F', y ∈ F ∨ w.heap.size ≤ y) : both w0 w' p F' s' q G t E := by
  refine ⟨a, h.m.keep b (fun y hy hm => h.ap y hm hy), fun y hy => ?_, h.mG, fun y hy hm => ?_, fun y hy hm => ?_, h.eG, fun y hy => ⟨(h.eB y hy).1, Nat.lt_of_lt_of_le (h.eB y hy).2 b.size⟩, h.kept.then b (fun y hy => .inr (h.lF y hy))⟩
  · rcases c y hy with h1 | h1
    · exact h.lF y h1
    · exact Nat.le_trans h.kept.size h1
  · rcases c y hy with h1 | h1
    · exact h.ap y h1 hm
    · have := h.m.lt y hm; omega
  · rcases c y hm with h1 | h1
    · exact h.eF y hy h1
    · have := (h.eB y hy).2; omega
/-- the loop that writes -9 over a chain -/
def nineRel (w0 : World) (p : Nat) (F : List Nat) (q : Nat) (G : List Nat) (s : LS) (tc : Nat) (row : Array Value) (C : List Nat) (A : Option Addr) (n : Nat) (v27 : Value) (wx : World) : Prop :=
  ∃ (k : Nat) (E : List Nat), k ≤ n ∧ v27 = .int .i64 (k : Int) ∧ both w0 wx p F s q G s E ∧ rowAt wx tc 55 row ∧ (∀ y ∈ C, y ∈ E ∧ y ≠ tc) ∧ canNine wx A n C

end Go.Proofs.Ytbjonlfjfjlelaa
