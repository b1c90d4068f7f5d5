/-
  DISK, 3: ready, lasting, New, Read, Synced, Dead.
-/
import Derived.Test.YtbjonlfjfjlelaaDisk2
namespace Go.Proofs.Ytbjonlfjfjlelaa
open Go.RowKit
set_option linter.unusedVariables false

/-- a call that looks alone -/
def DS.ready (d : DS) : Int := if d.dead then 130 else 0

set_option maxHeartbeats 400000 in
theorem ready_any (p : Nat) (F : List Nat) (d : DS) (w : World) (h : isD w p F d) :
    Calls Try.prog 58 #[.pointer (some ⟨p, 0, none⟩)] w fun e w' => e = .returned (.int .i64 d.ready) ∧ w = w' := by
  obtain ⟨vb, vs, vt, x, T, h1, h2, h3, h4, h5, h6⟩ := id h
  have hc2 : w.cell? ⟨p, 2, none⟩ = some (.bool d.dead) := h1.cell 2
  clear h1 h2 h3 h4 h5 h6
  cases hd : d.dead with
  | true =>
    have HR := Lib.hid (show d.ready = 130 by simp [DS.ready, hd])
    rw [hd] at hc2
    clear hd
    go_enter Try.func58, Try.ntmps58
    go_wp2_with (go_at_call 60; refine (none_any _ _ _ _ h).mono ?_; rintro e w' ⟨rfl, rfl⟩)
    go_ret
    exact ⟨by rw [HR.out]; rfl, rfl⟩
  | false =>
    have HR := Lib.hid (show d.ready = 0 by simp [DS.ready, hd])
    rw [hd] at hc2
    clear hd
    go_enter Try.func58, Try.ntmps58
    go_wp2_with (go_at_call 60; refine (none_any _ _ _ _ h).mono ?_; rintro e w' ⟨rfl, rfl⟩)
    go_ret
    exact ⟨by rw [HR.out]; rfl, rfl⟩

set_option maxHeartbeats 400000 in
theorem synced_any (p : Nat) (F : List Nat) (d : DS) (w : World) (h : isD w p F d) :
    Calls Try.prog 20 #[.pointer (some ⟨p, 0, none⟩)] w fun e w' => e = .returned (.int .i64 (d.n : Int)) ∧ w = w' := by
  obtain ⟨vb, vs, vt, x, T, h1, h2, h3, h4, h5, h6⟩ := id h
  have hc1 : w.cell? ⟨p, 1, none⟩ = some (.int .i64 (d.n : Int)) := h1.cell 1
  clear h1 h2 h3 h4 h5 h6
  go_enter Try.func20, Try.ntmps20
  go_wp2_with (go_at_call 60; refine (none_any _ _ _ _ h).mono ?_; rintro e w' ⟨rfl, rfl⟩)
  go_ret
  exact ⟨rfl, rfl⟩

set_option maxHeartbeats 400000 in
theorem dead_any (p : Nat) (F : List Nat) (d : DS) (w : World) (h : isD w p F d) :
    Calls Try.prog 23 #[.pointer (some ⟨p, 0, none⟩)] w fun e w' => e = .returned (.bool d.dead) ∧ w = w' := by
  obtain ⟨vb, vs, vt, x, T, h1, h2, h3, h4, h5, h6⟩ := id h
  have hc2 : w.cell? ⟨p, 2, none⟩ = some (.bool d.dead) := h1.cell 2
  clear h1 h2 h3 h4 h5 h6
  go_enter Try.func23, Try.ntmps23
  go_wp2_with (go_at_call 60; refine (none_any _ _ _ _ h).mono ?_; rintro e w' ⟨rfl, rfl⟩)
  go_ret
  exact ⟨rfl, rfl⟩

set_option maxHeartbeats 400000 in
theorem readD_any (p : Nat) (F : List Nat) (d : DS) (w : World) (h : isD w p F d) :
    Calls Try.prog 24 #[.pointer (some ⟨p, 0, none⟩)] w (copiedPost d.b w) := by
  obtain ⟨vb, vs, vt, x, T, h1, h2, h3, h4, h5, h6⟩ := id h
  obtain ⟨A, c, g, rfl, h7, h8, h9, h10⟩ := h2.seen
  have hc0 : w.cell? ⟨p, 0, none⟩ = some (.slice A d.b.length c) := h1.cell 0
  clear h1 h2 h3 h5 h6
  go_enter Try.func24, Try.ntmps24
  go_wp2_with (first | (go_at_call 60; refine (none_any _ _ _ _ h).mono ?_; rintro e w' ⟨rfl, rfl⟩) | (go_at_call 59; refine (copied_any _ _ _ _ _ h9 (by omega)).mono ?_; rintro e w' ⟨rfl, hr, hk⟩))
  go_ret
  exact ⟨rfl, hr, hk⟩

def DS.new : DS := ⟨[], 0, false, none, []⟩
/-- a call of a disk: what it answers, and what the disk is then -/
def dPost (p : Nat) (F : List Nat) (d' : DS) (r : Int) (w : World) (e : Ending) (w' : World) : Prop :=
  e = .returned (.int .i64 r) ∧ ∃ F', isD w' p F' d' ∧ keepBut F w w' ∧ ∀ y ∈ F', y ∈ F ∨ w.heap.size ≤ y
def newPost (w : World) (e : Ending) (w' : World) : Prop :=
  ∃ p F, e = .returned (.pointer (some ⟨p, 0, none⟩)) ∧ isD w' p F DS.new ∧ keepBut [] w w' ∧ ∀ y ∈ F, w.heap.size ≤ y

set_option maxHeartbeats 400000 in
theorem newD_any (w : World) : Calls Try.prog 11 #[] w (newPost w) := by
  go_enter Try.func11, Try.ntmps11
  go_wp2
  go_ret
  refine ⟨w.heap.size, [w.heap.size], rfl, ⟨_, _, _, w.heap.size, [], rowAt.new w _ _, owns.nil _ _ _, Nat.le_refl _, by simp [DS.new], rfl, owns.nil _ _ _, rfl, by simp, by simp, by simp, by simp [homes_none], by simp [homes_none], by simp⟩, (keepBut.refl _ _).alloc _, by simp⟩
end Go.Proofs.Ytbjonlfjfjlelaa
