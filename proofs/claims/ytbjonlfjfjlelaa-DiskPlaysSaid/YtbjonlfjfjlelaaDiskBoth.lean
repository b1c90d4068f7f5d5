/-
  DISK: both disks beside one another.
-/
import Derived.Test.YtbjonlfjfjlelaaDiskRef4
namespace Go.Proofs.Ytbjonlfjfjlelaa
open Go.RowKit
set_option linter.unusedVariables false
set_option maxRecDepth 100000

def both (w0 w : World) (p : Nat) (F : List Nat) (q : Nat) (G : List Nat) (d : DS) : Prop := dOn w0 w p F d ∧ isR w q G d ∧ (∀ y ∈ G, w0.heap.size ≤ y) ∧ ∀ y ∈ F, y ∉ G
theorem both.over {w0 w w' : World} {p q : Nat} {F G : List Nat} {d : DS} (h : both w0 w p F q G d) (hk : keepBut [] w w') : both w0 w' p F q G d :=
  ⟨h.1.over hk, h.2.1.keep hk (by simp), h.2.2⟩
/-- blocks of the law's own are written -/
theorem both.poke {S : List Nat} {w0 w w' : World} {p q : Nat} {F G : List Nat} {d : DS} (h : both w0 w p F q G d) (hk : keepBut S w w') (hF : ∀ y ∈ S, y ∉ F) (hG : ∀ y ∈ S, y ∉ G) (h0 : ∀ y ∈ S, w0.heap.size ≤ y) : both w0 w' p F q G d :=
  ⟨⟨h.1.1.keep hk (fun y hy hm => hF y hm hy), h.1.2.1, h.1.2.2.then hk (fun y hy => .inr (h0 y hy))⟩, h.2.1.keep hk (fun y hy hm => hG y hm hy), h.2.2⟩
theorem both.lt {w0 w : World} {p q : Nat} {F G : List Nat} {d : DS} (h : both w0 w p F q G d) : (∀ y ∈ F, y < w.heap.size) ∧ ∀ y ∈ G, y < w.heap.size := ⟨h.1.1.lt, h.2.1.lt⟩
/-- the program's disk has done a call -/
theorem both.d {w0 w w1 : World} {p q : Nat} {F G : List Nat} {d d' : DS} {r : Int} {e : Ending} (h : both w0 w p F q G d) (hp : dPost p F d' r w e w1) :
    e = .returned (.int .i64 r) ∧ keepBut F w w1 ∧ isR w1 q G d ∧ ∃ F', dOn w0 w1 p F' d' ∧ (∀ y ∈ F', y ∉ G) ∧ ∀ y ∈ F', y ∈ F ∨ w.heap.size ≤ y := by
  obtain ⟨he, F', h1, h2, h3⟩ := h.1.step hp
  refine ⟨he, h2, h.2.1.keep h2 (fun y hy hm => h.2.2.2 y hm hy), F', h1, fun y hy hm => ?_, h3⟩
  rcases h3 y hy with q1 | q1
  · exact h.2.2.2 y q1 hm
  · have := h.2.1.lt y hm; omega
/-- the document's disk has done the same -/
theorem both.r {w0 w1 w2 : World} {p q : Nat} {F' G : List Nat} {d' : DS} {v : Value} {e : Ending} (h : dOn w0 w1 p F' d') (hG0 : ∀ y ∈ G, w0.heap.size ≤ y) (hd : ∀ y ∈ F', y ∉ G) (hq : rPost q G d' v w1 e w2) :
    e = .returned v ∧ keepBut G w1 w2 ∧ ∃ G', both w0 w2 p F' q G' d' ∧ ∀ y ∈ G', y ∈ G ∨ w1.heap.size ≤ y := by
  obtain ⟨he, G', h1, h2, h3⟩ := hq
  refine ⟨he, h2, G', ⟨⟨h.1.keep h2 (fun y hy => hd y hy), h.2.1, h.2.2.then h2 (fun y hy => .inr (hG0 y hy))⟩, h1, fun y hy => ?_, fun y hy hm => ?_⟩, h3⟩
  · rcases h3 y hy with q1 | q1
    · exact hG0 y q1
    · exact Nat.le_trans h.2.2.size q1
  · rcases h3 y hm with q1 | q1
    · exact hd y hy q1
    · have := h.1.lt y hy; omega
/-- one byte of what is owned is turned -/
theorem owns.at {w : World} {v : Value} {n : Nat} {xs : List Value} (h : owns w 5 1 v n xs) (j : Nat) (hj : j < n) :
    ∃ g c u, v = .slice (some ⟨g, 0, none⟩) n c ∧ n ≤ c ∧ w.cell? ⟨g, j, none⟩ = some u ∧ xs[j]? = some u ∧ w.frozen? ⟨g, j, none⟩ = false ∧ homes v = [g] ∧ ∀ u', owns (w.setCell ⟨g, j, none⟩ u') 5 1 v n (xs.set j u') := by
  rcases h.2 with ⟨_, h0⟩ | ⟨g, cap, cur, rfl, hr, h1, h2, h3, h4⟩
  · omega
  · have hjc : j < cur.size := by omega
    have hx : xs[j]? = some cur[j] := by rw [← h4, List.getElem?_take, if_pos (by omega)]; simp [Array.getElem?_eq_getElem hjc]
    refine ⟨g, cap, cur[j], rfl, h1, by rw [hr.cell, Array.getElem?_eq_getElem hjc], hx, hr.free j, homes_some _ _ _ _, fun u' => ⟨by simpa using h.1, .inr ⟨g, cap, _, rfl, hr.set j u', h1, h2, by simpa using h3, ?_⟩⟩⟩
    rw [Array.toList_setIfInBounds, List.take_set, h4]
/-- what a call of kind k does -/
def DS.do (d : DS) (k : Int) (n : Int) (l : List UInt8) : Int × DS :=
  if k = 3 ∨ k = 4 then d.sync else if k = 5 then d.swap l else if k = 6 then d.cut n else if k = 7 then d.armed n else if k = 8 then d.crash n else if k = 9 then (0, d.revive) else d.write l
/-- what holds of a disk after i calls -/
structure inD (d : DS) (i : Nat) : Prop where
  flat : d.flat
  nb : d.n ≤ d.b.length
  len : d.b.length ≤ 300 * i
  tl : d.t.length ≤ i
  tf : d.t.flatten.length ≤ 300 * i
theorem inD.new : inD DS.new 0 := ⟨(by intro h; cases h), by simp [DS.new], by simp [DS.new], by simp [DS.new], by simp [DS.new]⟩
theorem inD.grow {d : DS} {i : Nat} (h : inD d i) : inD d (i + 1) := ⟨h.flat, h.nb, by have := h.len; omega, by have := h.tl; omega, by have := h.tf; omega⟩
theorem inD.die {d : DS} {i : Nat} (h : inD d i) (k : Nat) : inD (d.die k) (i + 1) := by
  have hl := DS.die_len d k h.nb
  have h1 := h.nb
  have h2 := h.len
  refine ⟨fun _ => by rw [hl]; rfl, by rw [hl]; exact Nat.le_refl _, by rw [hl]; omega, by have := h.tl; show d.t.length ≤ _; omega, by have := h.tf; show d.t.flatten.length ≤ _; omega⟩
theorem inD.do {d : DS} {i : Nat} (h : inD d i) (k n : Int) (l : List UInt8) (hl : l.length ≤ 300) : inD (d.do k n l).2 (i + 1) := by
  unfold DS.do
  split
  · unfold DS.sync
    split
    · exact h.grow
    · split
      · exact ⟨fun _ => rfl, Nat.le_refl _, by have := h.len; show d.b.length ≤ _; omega, by have := h.tl; show d.t.length ≤ _; omega, by have := h.tf; show d.t.flatten.length ≤ _; omega⟩
      · exact h.die _
  · split
    · unfold DS.swap
      split
      · exact h.grow
      · rename_i hd
        split
        · exact h.grow
        · split
          · exact h.die _
          · have h1 := h.tl
            have h2 := h.tf
            exact ⟨fun q => absurd q hd, Nat.le_refl _, by show l.length ≤ _; omega, by simp; omega, by simp at h2 ⊢; omega⟩
    · split
      · unfold DS.cut
        split
        · exact h.grow
        · rename_i hd
          split
          · exact h.grow
          · have h1 := h.len
            refine ⟨fun q => absurd q hd, ?_, ?_, by have := h.tl; show d.t.length ≤ _; omega, by have := h.tf; show d.t.flatten.length ≤ _; omega⟩
            · show n.toNat ≤ (d.b.take n.toNat).length; rw [List.length_take]; omega
            · show (d.b.take n.toNat).length ≤ _; rw [List.length_take]; omega
      · split
        · unfold DS.armed
          split
          · exact h.grow
          · split
            · exact h.grow
            · exact ⟨h.flat, h.nb, h.grow.len, h.grow.tl, h.grow.tf⟩
        · split
          · unfold DS.crash
            split
            · exact h.grow
            · exact h.die _
          · split
            · exact ⟨(fun q => by cases q), h.nb, h.grow.len, h.grow.tl, h.grow.tf⟩
            · unfold DS.write
              split
              · exact h.grow
              · rename_i hd
                split
                · exact h.grow
                · have h1 := h.tl
                  have h2 := h.tf
                  have h3 := h.len
                  have h4 := h.nb
                  exact ⟨fun q => absurd q hd, by simp; omega, by simp; omega, by simp; omega, by simp at h2 ⊢; omega⟩
end Go.Proofs.Ytbjonlfjfjlelaa
