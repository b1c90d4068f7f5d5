/-
  BASE: rows, what is kept, slices of bytes that are read. No number of the program stands here.
-/
import Derived.Test.YthfdkonhjpdflaaDoorRows
import Derived.WalkKit
import Derived.WalkSpells
import Derived.WalkLawsBesides
import Derived.Deep.AppendLies
import Derived.Deep.Draws
import Derived.Lib.Hide
namespace Go.Proofs.YthfdkonhjpdflaaDoor
set_option linter.unusedVariables false
open Go.RowKit

/-- a byte as a value -/
def bv (b : UInt8) : Value := .int .u8 (b.toNat : Int)

/-- block g is the row cs, of element type t, none of it frozen -/
def rowAt (w : World) (g : Nat) (t : TypeId) (cs : Array Value) : Prop := w.heap[g]? = some (.cells cs t (0, 0))

theorem rowAt.lt {w : World} {g : Nat} {t : TypeId} {cs : Array Value} (h : rowAt w g t cs) : g < w.heap.size := by
  unfold rowAt at h
  exact (Array.getElem?_eq_some_iff.1 h).1
theorem rowAt.cell {w : World} {g : Nat} {t : TypeId} {cs : Array Value} (h : rowAt w g t cs) (i : Nat) : w.cell? ⟨g, i, none⟩ = cs[i]? :=
  cell_of_row w g i cs t (0, 0) h
theorem rowAt.free {w : World} {g : Nat} {t : TypeId} {cs : Array Value} (h : rowAt w g t cs) (i : Nat) : w.frozen? ⟨g, i, none⟩ = false := by
  unfold rowAt at h
  simp [World.frozen?, h]
theorem rowAt.set {w : World} {g : Nat} {t : TypeId} {cs : Array Value} (h : rowAt w g t cs) (i : Nat) (u : Value) :
    rowAt (w.setCell ⟨g, i, none⟩ u) g t (cs.setIfInBounds i u) := by
  unfold rowAt at h ⊢
  simp [World.setCell, Array.getElem?_modify, h]
theorem rowAt.new (w : World) (t : TypeId) (cs : Array Value) : rowAt (w.alloc (.cells cs t)) w.heap.size t cs := heap_alloc_new w _
theorem rowAt.uniq {w : World} {g : Nat} {t t' : TypeId} {cs cs' : Array Value} (h : rowAt w g t cs) (h' : rowAt w g t' cs') : t = t' ∧ cs = cs' := by
  unfold rowAt at h h'
  rw [h] at h'
  injection h' with h'
  injection h' with a b _
  exact ⟨b, a⟩
theorem rowAt.apart {w : World} {g g' : Nat} {t t' : TypeId} {cs cs' : Array Value} (h : rowAt w g t cs) (h' : rowAt w g' t' cs') (hne : t ≠ t') : g ≠ g' := by
  rintro rfl
  exact hne (h.uniq h').1

/-- w' is w, but for blocks in S, and new ones -/
structure keepBut (S : List Nat) (w w' : World) : Prop where
  os : w'.os = w.os
  tape : w'.tape = w.tape
  output : w'.output = w.output
  size : w.heap.size ≤ w'.heap.size
  block : ∀ k, k < w.heap.size → k ∉ S → w'.heap[k]? = w.heap[k]?

theorem keepBut.refl (S : List Nat) (w : World) : keepBut S w w := ⟨rfl, rfl, rfl, Nat.le_refl _, fun _ _ _ => rfl⟩
theorem keepBut.then {S T : List Nat} {a b c : World} (h : keepBut S a b) (k : keepBut T b c) (hT : ∀ x ∈ T, x ∈ S ∨ a.heap.size ≤ x) : keepBut S a c :=
  ⟨k.os.trans h.os, k.tape.trans h.tape, k.output.trans h.output, Nat.le_trans h.size k.size, fun i hi hS =>
    (k.block i (Nat.lt_of_lt_of_le hi h.size) (fun hm => by rcases hT i hm with h1 | h1; exact hS h1; omega)).trans (h.block i hi hS)⟩
theorem keepBut.more {S T : List Nat} {a b : World} (h : keepBut S a b) (hST : ∀ x ∈ S, x ∈ T) : keepBut T a b :=
  ⟨h.os, h.tape, h.output, h.size, fun k hk hT => h.block k hk (fun hm => hT (hST k hm))⟩
theorem keepBut.alloc {S : List Nat} {a b : World} (h : keepBut S a b) (o : Obj) : keepBut S a (b.alloc o) :=
  ⟨h.os, h.tape, h.output, by have := h.size; simp; omega, fun k hk hS => by
    rw [Below.heap_alloc b o k (by have := h.size; omega)]; exact h.block k hk hS⟩
theorem keepBut.drew {S : List Nat} {a b : World} (h : keepBut S a b) : keepBut S a b.drew := ⟨h.os, h.tape, h.output, h.size, h.block⟩
theorem keepBut.drewN {S : List Nat} {a b : World} (h : keepBut S a b) (n : Nat) : keepBut S a (b.drewN n) := ⟨h.os, h.tape, h.output, h.size, h.block⟩
theorem keepBut.setCell {S : List Nat} {a b : World} (h : keepBut S a b) (p : Addr) (u : Value) (hp : p.block ∈ S ∨ a.heap.size ≤ p.block) : keepBut S a (b.setCell p u) :=
  ⟨h.os, h.tape, h.output, by have := h.size; simpa using this, fun k hk hS => by
    rw [Below.heap_setCell b p u k (by rintro rfl; rcases hp with h1 | h1; exact hS h1; omega)]; exact h.block k hk hS⟩
theorem keepBut.grown {S : List Nat} {a b c : World} {row : Option Nat} (h : keepBut S a b) (hg : b.grownBy c row) (hr : ∀ k, row = some k → k ∈ S ∨ a.heap.size ≤ k) : keepBut S a c :=
  ⟨hg.os.trans h.os, hg.tape.trans h.tape, hg.output.trans h.output, Nat.le_trans h.size hg.size, fun k hk hS =>
    (hg.block k (Nat.lt_of_lt_of_le hk h.size) (fun e => by rcases hr k e.symm with h1 | h1; exact hS h1; omega)).trans (h.block k hk hS)⟩
theorem keepBut.below {S : List Nat} {a b : World} (h : keepBut S a b) (B : Nat) (hB : B ≤ a.heap.size) (hS : ∀ x ∈ S, B ≤ x) : Below B a b :=
  ⟨h.os, h.tape, h.output, h.size, fun k hk => h.block k (by omega) (fun hm => by have := hS k hm; omega)⟩
theorem keepBut.row {S : List Nat} {a b : World} (h : keepBut S a b) {g : Nat} {t : TypeId} {cs : Array Value} (hr : rowAt a g t cs) (hg : g ∉ S) : rowAt b g t cs :=
  (h.block g hr.lt hg).trans hr
theorem keepBut.cell {S : List Nat} {a b : World} (h : keepBut S a b) {p : Addr} (hp : p.block < a.heap.size) (hS : p.block ∉ S) : b.cell? p = a.cell? p :=
  World.cell?_of_block (h.block p.block hp hS)

/-- the slice at A reads as the bytes l, and lies in block g (if there are any) -/
def seen (w : World) (A : Option Addr) (g : Nat) (l : List UInt8) : Prop :=
  l ≠ [] → ∃ o, A = some ⟨g, o, none⟩ ∧ g < w.heap.size ∧ ∀ j b, l[j]? = some b → w.cell? ⟨g, o + j, none⟩ = some (bv b)

theorem seen.nil (w : World) (A : Option Addr) (g : Nat) : seen w A g [] := fun h => absurd rfl h
theorem seen.keep {S : List Nat} {w w' : World} {A : Option Addr} {g : Nat} {l : List UInt8} (h : seen w A g l) (hk : keepBut S w w') (hg : l ≠ [] → g ∉ S) : seen w' A g l := by
  intro hl
  obtain ⟨o, hA, hlt, hc⟩ := h hl
  exact ⟨o, hA, Nat.lt_of_lt_of_le hlt hk.size, fun j b hb => (hk.cell (p := ⟨g, o + j, none⟩) hlt (hg hl)).trans (hc j b hb)⟩
theorem add_plain (g o n : Nat) : (⟨g, o, none⟩ : Addr).add n = ⟨g, o + n, none⟩ := by
  unfold Addr.add
  split
  · simp_all
  · rfl
theorem seen.take {w : World} {A : Option Addr} {g : Nat} {l : List UInt8} (h : seen w A g l) (n : Nat) : seen w A g (l.take n) := by
  intro hl
  obtain ⟨o, hA, hlt, hc⟩ := h (by rintro rfl; simp at hl)
  refine ⟨o, hA, hlt, fun j b hb => hc j b ?_⟩
  rw [List.getElem?_take] at hb
  split at hb
  · exact hb
  · cases hb
theorem seen.drop {w : World} {A : Option Addr} {g : Nat} {l : List UInt8} (h : seen w A g l) (n : Nat) : seen w (A.map fun x => x.add n) g (l.drop n) := by
  intro hl
  obtain ⟨o, rfl, hlt, hc⟩ := h (by rintro rfl; simp at hl)
  refine ⟨o + n, by simp [add_plain], hlt, fun j b hb => ?_⟩
  rw [Nat.add_assoc]
  exact hc _ b (by rw [← hb, List.getElem?_drop])
end Go.Proofs.YthfdkonhjpdflaaDoor
