/-
  LEAD: some leaders beside one another, and blocks of the law's own.
-/
import Derived.Test.YtbjonlfjfjlelaaLeadNames
namespace Go.Proofs.Ytbjonlfjfjlelaa
open Go.RowKit
set_option linter.unusedVariables false
set_option maxRecDepth 100000

/-- n leaders made since w0 that share nothing; G: blocks of the law's own -/
structure crew (n : Nat) (w0 w : World) (p : Nat → Nat) (F : Nat → List Nat) (s : Nat → LS) (G : List Nat) : Prop where
  is : ∀ i, i < n → isL w (p i) (F i) (s i)
  new : ∀ i, i < n → ∀ y ∈ F i, w0.heap.size ≤ y
  apart : ∀ i, i < n → ∀ j, j < n → i ≠ j → ∀ y ∈ F i, y ∉ F j
  own : ∀ i, i < n → ∀ y ∈ F i, y ∉ G
  blocks : ∀ y ∈ G, w0.heap.size ≤ y ∧ y < w.heap.size
  kept : keepBut [] w0 w

theorem crew.over {n : Nat} {w0 w w' : World} {p : Nat → Nat} {F : Nat → List Nat} {s : Nat → LS} {G : List Nat} (h : crew n w0 w p F s G) (hk : keepBut [] w w') : crew n w0 w' p F s G :=
  ⟨fun i hi => (h.is i hi).over hk, h.new, h.apart, h.own, fun y hy => ⟨(h.blocks y hy).1, Nat.lt_of_lt_of_le (h.blocks y hy).2 hk.size⟩, h.kept.then hk (by simp)⟩
/-- a block of the law's own is written -/
theorem crew.poke {n : Nat} {w0 w w' : World} {p : Nat → Nat} {F : Nat → List Nat} {s : Nat → LS} {G : List Nat} (h : crew n w0 w p F s G) {g : Nat} (hg : g ∈ G) (hk : keepBut [g] w w') : crew n w0 w' p F s G :=
  ⟨fun i hi => (h.is i hi).keep hk (fun y hy hm => h.own i hi y hy (by rw [List.mem_singleton.1 hm]; exact hg)), h.new, h.apart, h.own,
    fun y hy => ⟨(h.blocks y hy).1, Nat.lt_of_lt_of_le (h.blocks y hy).2 hk.size⟩, h.kept.then hk (fun y hy => .inr (by rw [List.mem_singleton.1 hy]; exact (h.blocks g hg).1))⟩
/-- a new block of the law's own -/
theorem crew.own_new {n : Nat} {w0 w : World} {p : Nat → Nat} {F : Nat → List Nat} {s : Nat → LS} {G : List Nat} (h : crew n w0 w p F s G) (o : Obj) : crew n w0 (w.alloc o) p F s (w.heap.size :: G) := by
  have h' := h.over ((keepBut.refl [] w).alloc o)
  refine ⟨h'.is, h'.new, h'.apart, fun i hi y hy hm => ?_, fun y hy => ?_, h'.kept⟩
  · rcases List.mem_cons.1 hm with rfl | hm
    · exact Nat.lt_irrefl _ ((h.is i hi).lt _ hy)
    · exact h.own i hi y hy hm
  · rcases List.mem_cons.1 hy with rfl | hy
    · exact ⟨h.kept.size, by simp⟩
    · exact h'.blocks y hy
/-- one of them does something -/
theorem crew.l {n : Nat} {w0 w w' : World} {p : Nat → Nat} {F : Nat → List Nat} {s : Nat → LS} {G : List Nat} {k : Nat} {s' : LS} (h : crew n w0 w p F s G) (hk : k < n) (hl : lPost (p k) (F k) s' w w') :
    ∃ F', crew n w0 w' p (fun i => if i = k then F' else F i) (fun i => if i = k then s' else s i) G ∧ keepBut (F k) w w' := by
  obtain ⟨F', a, b, c⟩ := hl
  have hold : ∀ i, i < n → i ≠ k → ∀ y ∈ F i, y ∉ F' := fun i hi hne y hy hm => by
    rcases c y hm with h1 | h1
    · exact h.apart i hi k hk hne y hy h1
    · have := (h.is i hi).lt y hy; omega
  refine ⟨F', ⟨fun i hi => ?_, fun i hi y hy => ?_, fun i hi j hj hne y hy hm => ?_, fun i hi y hy hm => ?_, fun y hy => ⟨(h.blocks y hy).1, Nat.lt_of_lt_of_le (h.blocks y hy).2 b.size⟩, h.kept.then b (fun y hy => .inr (h.new k hk y hy))⟩, b⟩
  · by_cases e : i = k
    · subst e; simpa using a
    · simpa [e] using (h.is i hi).keep b (h.apart i hi k hk e)
  · by_cases e : i = k
    · rw [if_pos e] at hy
      rcases c y hy with h1 | h1
      · exact h.new k hk y h1
      · exact Nat.le_trans h.kept.size h1
    · rw [if_neg e] at hy; exact h.new i hi y hy
  · by_cases e : i = k
    · by_cases e2 : j = k
      · exact hne (e.trans e2.symm)
      · rw [if_pos e] at hy; rw [if_neg e2] at hm; exact hold j hj e2 y hm hy
    · by_cases e2 : j = k
      · rw [if_neg e] at hy; rw [if_pos e2] at hm; exact hold i hi e y hy hm
      · rw [if_neg e] at hy; rw [if_neg e2] at hm; exact h.apart i hi j hj hne y hy hm
  · by_cases e : i = k
    · rw [if_pos e] at hy
      rcases c y hy with h1 | h1
      · exact h.own k hk y h1 hm
      · have := (h.blocks y hm).2; omega
    · rw [if_neg e] at hy; exact h.own i hi y hy hm
theorem crew.row {n : Nat} {w0 w w' : World} {p : Nat → Nat} {F : Nat → List Nat} {s : Nat → LS} {G : List Nat} {k g : Nat} (h : crew n w0 w p F s G) (hk : k < n) (hg : g ∈ G) (hb : keepBut (F k) w w') {t : TypeId} {cs : Array Value} (hr : rowAt w g t cs) : rowAt w' g t cs :=
  hb.row hr (fun hm => h.own k hk g hm hg)
theorem crew.w {n : Nat} {w0 w w' : World} {p : Nat → Nat} {F : Nat → List Nat} {s : Nat → LS} {G : List Nat} {k : Nat} {s' : LS} {v : Value} {e : Ending} (h : crew n w0 w p F s G) (hk : k < n) (hl : wPost (p k) (F k) s' v w e w') :
    e = .returned v ∧ ∃ F', crew n w0 w' p (fun i => if i = k then F' else F i) (fun i => if i = k then s' else s i) G ∧ keepBut (F k) w w' :=
  ⟨hl.1, h.l hk (lPost.of_w hl (h.is k hk).mem).2⟩
theorem crew.nobody {w0 w : World} (hk : keepBut [] w0 w) (p : Nat → Nat) (F : Nat → List Nat) (s : Nat → LS) : crew 0 w0 w p F s [] :=
  ⟨fun i hi => absurd hi (by omega), fun i hi => absurd hi (by omega), fun i hi => absurd hi (by omega), fun i hi => absurd hi (by omega), fun y hy => absurd hy (by simp), hk⟩
/-- one more leader -/
theorem crew.more {n : Nat} {w0 w w' : World} {p : Nat → Nat} {F : Nat → List Nat} {s : Nat → LS} {G : List Nat} {id : Int} {e : Ending} (h : crew n w0 w p F s G) (hn : newLPost id w e w') :
    ∃ p' F', e = .returned (.tuple #[.pointer (some ⟨p', 0, none⟩), .int .i64 0]) ∧ crew (n + 1) w0 w' (fun i => if i = n then p' else p i) (fun i => if i = n then F' else F i) (fun i => if i = n then LS.new id else s i) G ∧ keepBut [] w w' := by
  obtain ⟨p', F', he, a, b, c⟩ := hn
  have h' := h.over c
  have hout : ∀ i, i < n → ∀ y ∈ F i, y ∉ F' := fun i hi y hy hm => by have := (h.is i hi).lt y hy; have := b y hm; omega
  refine ⟨p', F', he, ⟨fun i hi => ?_, fun i hi y hy => ?_, fun i hi j hj hne y hy hm => ?_, fun i hi y hy hm => ?_, h'.blocks, h'.kept⟩, c⟩
  · by_cases e : i = n
    · simpa [e] using a
    · simpa [e] using h'.is i (by omega)
  · by_cases e : i = n
    · rw [if_pos e] at hy; exact Nat.le_trans h.kept.size (b y hy)
    · rw [if_neg e] at hy; exact h.new i (by omega) y hy
  · by_cases e : i = n
    · by_cases e2 : j = n
      · exact hne (e.trans e2.symm)
      · rw [if_pos e] at hy; rw [if_neg e2] at hm; exact hout j (by omega) y hm hy
    · by_cases e2 : j = n
      · rw [if_neg e] at hy; rw [if_pos e2] at hm; exact hout i (by omega) y hy hm
      · rw [if_neg e] at hy; rw [if_neg e2] at hm; exact h.apart i (by omega) j (by omega) hne y hy hm
  · by_cases e : i = n
    · rw [if_pos e] at hy; have := b y hy; have := (h.blocks y hm).2; omega
    · rw [if_neg e] at hy; exact h.own i (by omega) y hy hm
end Go.Proofs.Ytbjonlfjfjlelaa
