/-
  SWEEP, 1: what a sweep is in memory; its calls.
-/
import Derived.Test.YtoejfgjdmcamaaaBring
import Derived.Laws.EntriesVeiled
import Derived.Outline
import Derived.Deep.QuietTactic
import Derived.BigQuiet
import Derived.BigRegion
import Derived.Deep.RegionLaw
import Derived.Deep.RegionHeld3
namespace Go.Proofs.Ytoejfgjdmcamaaa
open Go.RowKit
set_option linter.unusedVariables false
set_option maxRecDepth 100000

/-- a sweep, as the chapter has it -/
structure SS where
  ph : Int
  back : Bool
  pat : Int
  waits : Bool
  seen : Int
  sealed : Int
  late : Int
  why : Int

/-- a sweep that may be -/
structure SS.ok (s : SS) : Prop where
  p1 : 1 ≤ s.ph
  p5 : s.ph ≤ 5
  a0 : 0 ≤ s.pat
  a1 : s.pat ≤ 100
  n0 : 0 ≤ s.seen
  n1 : s.seen ≤ 1000000
  m0 : 0 ≤ s.sealed
  m1 : s.sealed ≤ 1000000
  l0 : 0 ≤ s.late
  l1 : s.late ≤ 1000000
  wt : s.waits = true → s.ph ≤ 3

def isS (w : World) (p : Nat) (s : SS) : Prop :=
  rowAt w p 57 #[.int .i64 s.ph, .bool s.back, .int .i64 s.pat, .bool s.waits, .int .i64 s.seen, .int .i64 s.sealed, .int .i64 s.late, .int .i64 s.why]

theorem isS.keep {S : List Nat} {w w' : World} {p : Nat} {s : SS} (h : isS w p s) (hk : keepBut S w w') (hS : p ∉ S) : isS w' p s := hk.row h hS

def SS.goOn (s : SS) : SS := { s with ph := if s.back then 2 else 3 }
def SS.fail (s : SS) (c : Int) : SS := { s with ph := 5, why := c }

/-- a method that turns the sweep: it answers v -/
def sPost (p : Nat) (s' : SS) (v : Value) (w : World) (e : Ending) (w' : World) : Prop := e = .returned v ∧ isS w' p s' ∧ keepBut [p] w w'

theorem sPost.then {p : Nat} {s s' : SS} {v v' : Value} {w w1 w2 : World} {e e' : Ending} (h : sPost p s v w e w1) (h' : sPost p s' v' w1 e' w2) : sPost p s' v' w e' w2 :=
  ⟨h'.1, h'.2.1, h.2.2.then h'.2.2 (fun x hx => .inl hx)⟩

set_option maxHeartbeats 400000 in
theorem noneS_any (p : Nat) (s : SS) (w : World) (h : isS w p s) (h1 : 1 ≤ s.ph) :
    Calls Try.prog 22 #[.pointer (some ⟨p, 0, none⟩)] w fun e w' => e = .returned (.bool false) ∧ w = w' := by
  have hc0 : w.cell? ⟨p, 0, none⟩ = some (.int .i64 s.ph) := h.cell 0
  have hn : (s.ph == 0) = false := by simp; omega
  clear h
  go_enter Try.func22, Try.ntmps22
  go_wp2
  go_ret
  exact ⟨rfl, rfl⟩

set_option maxHeartbeats 400000 in
theorem phase_any (p : Nat) (s : SS) (w : World) (h : isS w p s) (h1 : 1 ≤ s.ph) :
    Calls Try.prog 16 #[.pointer (some ⟨p, 0, none⟩)] w fun e w' => e = .returned (.int .i64 s.ph) ∧ w = w' := by
  have hc0 : w.cell? ⟨p, 0, none⟩ = some (.int .i64 s.ph) := h.cell 0
  go_enter Try.func16, Try.ntmps16
  go_wp2_with (go_at_call 22; refine (noneS_any _ _ _ h h1).mono ?_; rintro e w' ⟨rfl, rfl⟩)
  go_ret
  exact ⟨rfl, rfl⟩
set_option maxHeartbeats 400000 in
theorem waits_any (p : Nat) (s : SS) (w : World) (h : isS w p s) (h1 : 1 ≤ s.ph) :
    Calls Try.prog 29 #[.pointer (some ⟨p, 0, none⟩)] w fun e w' => e = .returned (.bool s.waits) ∧ w = w' := by
  have hc0 : w.cell? ⟨p, 3, none⟩ = some (.bool s.waits) := h.cell 3
  go_enter Try.func29, Try.ntmps29
  go_wp2_with (go_at_call 22; refine (noneS_any _ _ _ h h1).mono ?_; rintro e w' ⟨rfl, rfl⟩)
  go_ret
  exact ⟨rfl, rfl⟩
set_option maxHeartbeats 400000 in
theorem seenS_any (p : Nat) (s : SS) (w : World) (h : isS w p s) (h1 : 1 ≤ s.ph) :
    Calls Try.prog 17 #[.pointer (some ⟨p, 0, none⟩)] w fun e w' => e = .returned (.int .i64 s.seen) ∧ w = w' := by
  have hc0 : w.cell? ⟨p, 4, none⟩ = some (.int .i64 s.seen) := h.cell 4
  go_enter Try.func17, Try.ntmps17
  go_wp2_with (go_at_call 22; refine (noneS_any _ _ _ h h1).mono ?_; rintro e w' ⟨rfl, rfl⟩)
  go_ret
  exact ⟨rfl, rfl⟩
set_option maxHeartbeats 400000 in
theorem sealedS_any (p : Nat) (s : SS) (w : World) (h : isS w p s) (h1 : 1 ≤ s.ph) :
    Calls Try.prog 18 #[.pointer (some ⟨p, 0, none⟩)] w fun e w' => e = .returned (.int .i64 s.sealed) ∧ w = w' := by
  have hc0 : w.cell? ⟨p, 5, none⟩ = some (.int .i64 s.sealed) := h.cell 5
  go_enter Try.func18, Try.ntmps18
  go_wp2_with (go_at_call 22; refine (noneS_any _ _ _ h h1).mono ?_; rintro e w' ⟨rfl, rfl⟩)
  go_ret
  exact ⟨rfl, rfl⟩
set_option maxHeartbeats 400000 in
theorem why_any (p : Nat) (s : SS) (w : World) (h : isS w p s) (h1 : 1 ≤ s.ph) :
    Calls Try.prog 20 #[.pointer (some ⟨p, 0, none⟩)] w fun e w' => e = .returned (.int .i64 s.why) ∧ w = w' := by
  have hc0 : w.cell? ⟨p, 7, none⟩ = some (.int .i64 s.why) := h.cell 7
  go_enter Try.func20, Try.ntmps20
  go_wp2_with (go_at_call 22; refine (noneS_any _ _ _ h h1).mono ?_; rintro e w' ⟨rfl, rfl⟩)
  go_ret
  exact ⟨rfl, rfl⟩

set_option maxHeartbeats 400000 in
theorem goOn_any (p : Nat) (s : SS) (w : World) (h : isS w p s) :
    Calls Try.prog 21 #[.pointer (some ⟨p, 0, none⟩)] w (sPost p s.goOn (.tuple #[]) w) := by
  have hc1 : w.cell? ⟨p, 1, none⟩ = some (.bool s.back) := h.cell 1
  have hc0 : w.cell? ⟨p, 0, none⟩ = some (.int .i64 s.ph) := h.cell 0
  have hf0 := h.free 0
  cases hb : s.back with
  | true =>
    have e1 : isS ((w.setCell ⟨p, 0, none⟩ (.int .i64 3)).setCell ⟨p, 0, none⟩ (.int .i64 2)) p s.goOn := by
      have := (rowAt.set h 0 (.int .i64 3)).set 0 (.int .i64 2)
      simpa [isS, SS.goOn, hb] using this
    have e2 := ((keepBut.refl [p] w).setCell ⟨p, 0, none⟩ (.int .i64 3) (by simp)).setCell ⟨p, 0, none⟩ (.int .i64 2) (by simp)
    have H := Lib.hid (And.intro e1 e2)
    rw [hb] at hc1
    clear e1 e2 h hb
    go_enter Try.func21, Try.ntmps21
    go_wp2
    go_end0
    exact ⟨rfl, H.out.1, H.out.2⟩
  | false =>
    have e1 : isS (w.setCell ⟨p, 0, none⟩ (.int .i64 3)) p s.goOn := by
      have := (rowAt.set h 0 (.int .i64 3))
      simpa [isS, SS.goOn, hb] using this
    have e2 := ((keepBut.refl [p] w).setCell ⟨p, 0, none⟩ (.int .i64 3) (by simp))
    have H := Lib.hid (And.intro e1 e2)
    rw [hb] at hc1
    clear e1 e2 h hb
    go_enter Try.func21, Try.ntmps21
    go_wp2
    go_end0
    exact ⟨rfl, H.out.1, H.out.2⟩

set_option maxHeartbeats 400000 in
theorem fail_any (p : Nat) (s : SS) (c : Int) (w : World) (h : isS w p s) :
    Calls Try.prog 26 #[.pointer (some ⟨p, 0, none⟩), .int .i64 c] w (sPost p (s.fail c) (.tuple #[]) w) := by
  have hc0 : w.cell? ⟨p, 0, none⟩ = some (.int .i64 s.ph) := h.cell 0
  have hc7 : w.cell? ⟨p, 7, none⟩ = some (.int .i64 s.why) := h.cell 7
  have hf0 := h.free 0
  have hf7 := h.free 7
  have e1 : isS ((w.setCell ⟨p, 0, none⟩ (.int .i64 5)).setCell ⟨p, 7, none⟩ (.int .i64 c)) p (s.fail c) := by
    have := (rowAt.set h 0 (.int .i64 5)).set 7 (.int .i64 c)
    simpa [isS, SS.fail] using this
  have e2 := ((keepBut.refl [p] w).setCell ⟨p, 0, none⟩ (.int .i64 5) (by simp)).setCell ⟨p, 7, none⟩ (.int .i64 c) (by simp)
  have H := Lib.hid (And.intro e1 e2)
  clear e1 e2 h
  go_enter Try.func26, Try.ntmps26
  go_wp2
  go_end0
  exact ⟨rfl, H.out.1, H.out.2⟩
end Go.Proofs.Ytoejfgjdmcamaaa
