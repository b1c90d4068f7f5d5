/-
  PAD: Class.
-/
import Derived.Test.YtaclpogcedgojaaDoorBase
namespace Go.Proofs.YtaclpogcedgojaaDoor
open Go.RowKit
set_option linter.unusedVariables false

/-- the table of classes, as the program's text lays it -/
def classesAt (w : World) : Prop := w.cell? ⟨0, 0, none⟩ = some (.int .i64 16) ∧ w.cell? ⟨0, 1, none⟩ = some (.int .i64 64) ∧ w.cell? ⟨0, 2, none⟩ = some (.int .i64 256)
def classP (n : Int) : Int := if n < 0 ∨ 250 < n then 0 else if n ≤ 13 then 16 else if n ≤ 61 then 64 else 256

theorem idx0 (w : World) : (Instr.index 40 (.agg #[.int .i64 16, .int .i64 64, .int .i64 256]) (.int .i64 0)).run Tryd.prog w = .ok (.int .i64 16) w := by kernel_rfl
theorem idx1 (w : World) : (Instr.index 40 (.agg #[.int .i64 16, .int .i64 64, .int .i64 256]) (.int .i64 1)).run Tryd.prog w = .ok (.int .i64 64) w := by kernel_rfl
theorem idx2 (w : World) : (Instr.index 40 (.agg #[.int .i64 16, .int .i64 64, .int .i64 256]) (.int .i64 2)).run Tryd.prog w = .ok (.int .i64 256) w := by kernel_rfl

set_option maxRecDepth 100000 in
set_option maxHeartbeats 1000000 in
theorem class_any (n : Int) (w : World) (h : classesAt w) : Calls Tryd.prog 14 #[.int .i64 n] w fun e w' => e = .returned (.int .i64 (classP n)) ∧ w = w' := by
  obtain ⟨h0, h1, h2⟩ := h
  have i0 := idx0
  have i1 := idx1
  have i2 := idx2
  by_cases ho : n < 0 ∨ 250 < n
  · have HP := Lib.hid (show classP n = 0 by unfold classP; rw [if_pos ho])
    rcases ho with ho | ho
    all_goals
      go_enter Tryd.func14, Tryd.ntmps14
      go_wp2
      go_ret
      exact ⟨by rw [HP.out]; rfl, rfl⟩
  · have hn : 0 ≤ n ∧ n ≤ 250 := by omega
    have cs : (n ≤ 13 ∧ classP n = 16) ∨ (13 < n ∧ n ≤ 61 ∧ classP n = 64) ∨ (61 < n ∧ classP n = 256) := by
      unfold classP; rw [if_neg ho]
      by_cases a : n ≤ 13
      · rw [if_pos a]; omega
      · rw [if_neg a]
        by_cases b : n ≤ 61
        · rw [if_pos b]; omega
        · rw [if_neg b]; omega
    obtain ⟨hn0, hn1⟩ := hn
    clear ho
    rcases cs with ⟨a, hp⟩ | ⟨a, b, hp⟩ | ⟨a, hp⟩
    all_goals
      have HP := Lib.hid hp
      clear hp
      go_enter Tryd.func14, Tryd.ntmps14
      go_wp2
      refine wp_loop_rounds 4 ?_
      rw [rounds_succ]
      go_wp2
      try (rw [rounds_succ]; go_wp2)
      try (rw [rounds_succ]; go_wp2)
      go_ret
      exact ⟨by rw [HP.out]; rfl, rfl⟩
end Go.Proofs.YtaclpogcedgojaaDoor
