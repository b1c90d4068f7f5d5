/-
  DiskKeeps, the plain part: what a disk has to hold, call by call.
-/
import Derived.Test.YtaclpogcedgojaaDiskTraces
namespace Go.Proofs.Ytaclpogcedgojaa
open Go.RowKit
set_option linter.unusedVariables false

/-- the disk d beside what was written (all) and what is sure of it (s) -/
def kP (d : DS) (all : List UInt8) (s : Nat) : Prop :=
  d.b = all.take d.b.length ∧ d.b.length ≤ all.length ∧ s ≤ d.n ∧ (d.dead = false → d.b.length = all.length) ∧ (d.dead = true → d.n = d.b.length)
/-- the same at the head of a round: all is what the disk holds -/
def kH (d : DS) (s : Nat) : Prop := s ≤ d.n ∧ d.n ≤ d.b.length ∧ (d.dead = true → d.n = d.b.length)

theorem kP.same {d : DS} {s : Nat} (h : kH d s) : kP d d.b s := ⟨by simp, Nat.le_refl _, h.1, fun _ => rfl, h.2.2⟩
theorem kP.full {d : DS} {all : List UInt8} {s : Nat} (h : kP d all s) (hd : d.dead = false) : all = d.b := by
  have h1 := h.2.2.2.1 hd
  have h2 := h.1
  rw [h1, List.take_length] at h2
  exact h2.symm
theorem kP.head {d : DS} {all : List UInt8} {s : Nat} (h : kP d all s) (hn : d.n ≤ d.b.length) : kH d (if d.dead then d.b.length else s) := by
  cases hd : d.dead with
  | true => exact ⟨by have := h.2.2.2.2 hd; simp; omega, hn, h.2.2.2.2⟩
  | false => exact ⟨by simpa using h.2.2.1, hn, h.2.2.2.2⟩
theorem kP.die {d : DS} {s : Nat} (h : kH d s) (k : Nat) : kP (d.die k) d.b s := by
  have hl := DS.die_len d k h.2.1
  refine ⟨?_, by rw [hl]; have := h.2.1; omega, by show s ≤ d.n + min k (d.b.length - d.n); have := h.1; omega, fun hd => by simp [DS.die] at hd, fun _ => by rw [hl]; rfl⟩
  rw [hl]; rfl
theorem k_sync {d : DS} {s : Nat} (h : kH d s) : (d.sync.1 = 0 ∧ kP d.sync.2 d.b d.b.length) ∨ (d.sync.1 ≠ 0 ∧ kP d.sync.2 d.b s) := by
  unfold DS.sync
  split
  · exact .inr ⟨by simp, kP.same h⟩
  · cases d.arm with
    | none => exact .inl ⟨rfl, by simp [DS.last], by simp [DS.last], by simp [DS.last], fun _ => rfl, fun _ => rfl⟩
    | some k => exact .inr ⟨by simp, kP.die h k⟩
theorem k_armed {d : DS} {s : Nat} (h : kH d s) (k : Int) : kP (d.armed k).2 d.b s := by
  unfold DS.armed
  split
  · exact kP.same h
  · split
    · exact kP.same h
    · exact ⟨by simp, by simp, h.1, fun _ => rfl, h.2.2⟩
theorem k_crash {d : DS} {s : Nat} (h : kH d s) (k : Int) (hk : 0 ≤ k) : (d.crash k).1 = 0 ∧ (d.crash k).2.dead = true ∧ kP (d.crash k).2 d.b s := by
  unfold DS.crash
  rw [if_neg (by omega)]
  exact ⟨rfl, rfl, kP.die h _⟩
theorem k_revive {d : DS} {s : Nat} (h : kH d s) : kP d.revive d.b s := ⟨by simp [DS.revive], by simp [DS.revive], h.1, fun _ => rfl, fun hd => by simp [DS.revive] at hd⟩
theorem k_cut {d : DS} {s : Nat} (h : kH d s) (k : Nat) : ((d.cut k).1 = 0 ∧ k ≤ d.b.length ∧ kP (d.cut k).2 (d.b.take k) k) ∨ ((d.cut k).1 ≠ 0 ∧ kP (d.cut k).2 d.b s) := by
  unfold DS.cut
  split
  · exact .inr ⟨by simp, kP.same h⟩
  · rename_i hd
    split
    · exact .inr ⟨by simp, kP.same h⟩
    · rename_i hk
      have hkb : k ≤ d.b.length := by omega
      refine .inl ⟨rfl, hkb, ?_, ?_, ?_, fun _ => ?_, fun hx => absurd hx hd⟩
      · exact (List.take_length (l := d.b.take k)).symm
      · simp
      · simp
      · simp
theorem cut_t (d : DS) (k : Int) : (d.cut k).2.t = d.t := by
  unfold DS.cut
  split
  · rfl
  · split <;> rfl
theorem k_swap {d : DS} {s : Nat} (h : kH d s) (b : List UInt8) : ((d.swap b).1 = 0 ∧ kP (d.swap b).2 b b.length) ∨ ((d.swap b).1 ≠ 0 ∧ kP (d.swap b).2 d.b s) := by
  unfold DS.swap
  split
  · exact .inr ⟨by simp, kP.same h⟩
  · rename_i hd
    split
    · exact .inr ⟨by simp, kP.same h⟩
    · cases d.arm with
      | none => exact .inl ⟨rfl, by simp, by simp, by simp, fun _ => rfl, fun hx => by simp at hx; exact absurd hx hd⟩
      | some k => exact .inr ⟨by simp, kP.die h k⟩
theorem k_write {d : DS} {s : Nat} (h : kH d s) (b : List UInt8) (hb : d.b.length + b.length ≤ 1048576) :
    (d.dead = true ∧ (d.write b).1 ≠ 0 ∧ kP (d.write b).2 d.b s) ∨ (d.dead = false ∧ (d.write b).1 = 0 ∧ kP (d.write b).2 (d.b ++ b) s) := by
  unfold DS.write
  cases hd : d.dead with
  | true => exact .inl ⟨rfl, by simp, by simpa using kP.same h⟩
  | false =>
    refine .inr ⟨rfl, ?_⟩
    rw [if_neg (by simp), if_neg (by omega)]
    exact ⟨rfl, (List.take_length (l := d.b ++ b)).symm, by simp, h.1, fun _ => by simp, fun hx => by simp at hx⟩
end Go.Proofs.Ytaclpogcedgojaa
