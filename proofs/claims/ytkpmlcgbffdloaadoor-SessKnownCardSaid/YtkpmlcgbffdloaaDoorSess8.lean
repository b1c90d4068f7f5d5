/-
  SESS, 8: which lengths an envelope may have.
-/
import Derived.Test.YtkpmlcgbffdloaaDoorSess7
namespace Go.Proofs.YtkpmlcgbffdloaaDoor
open Go.RowKit
set_option linter.unusedVariables false
set_option maxRecDepth 100000

/-- the table of sizes, as the program's text lays it -/
def sizesAt (w : World) : Prop := w.cell? ⟨0, 0, none⟩ = some (.int .i64 45) ∧ w.cell? ⟨0, 1, none⟩ = some (.int .i64 93) ∧ w.cell? ⟨0, 2, none⟩ = some (.int .i64 285)
theorem sizesAt.keep {S : List Nat} {w w' : World} (h : sizesAt w) (hk : keepBut S w w') (hS : 0 ∉ S) : sizesAt w' := by
  obtain ⟨h0, h1, h2⟩ := h
  have k : ∀ (j : Nat) (v : Value), w.cell? ⟨0, j, none⟩ = some v → w'.cell? ⟨0, j, none⟩ = some v := fun j v hv => (hk.cell (p := ⟨0, j, none⟩) (World.block_lt_of_cell? w _ hv) hS).trans hv
  exact ⟨k _ _ h0, k _ _ h1, k _ _ h2⟩
def sizedP (n : Int) : Bool := (n == 45) || ((n == 93) || (n == 285))
theorem szx0 (w : World) : (Instr.index 55 (.agg #[.int .i64 45, .int .i64 93, .int .i64 285]) (.int .i64 0)).run Tryd.prog w = .ok (.int .i64 45) w := by kernel_rfl
theorem szx1 (w : World) : (Instr.index 55 (.agg #[.int .i64 45, .int .i64 93, .int .i64 285]) (.int .i64 1)).run Tryd.prog w = .ok (.int .i64 93) w := by kernel_rfl
theorem szx2 (w : World) : (Instr.index 55 (.agg #[.int .i64 45, .int .i64 93, .int .i64 285]) (.int .i64 2)).run Tryd.prog w = .ok (.int .i64 285) w := by kernel_rfl
set_option maxHeartbeats 1000000 in
theorem sized_any (n : Int) (w : World) (h : sizesAt w) : Calls Tryd.prog 64 #[.int .i64 n] w fun e w' => e = .returned (.bool (sizedP n)) ∧ w = w' := by
  obtain ⟨h0, h1, h2⟩ := h
  have i0 := szx0
  have i1 := szx1
  have i2 := szx2
  have cs : (n = 45 ∧ sizedP n = true) ∨ ((n == 45) = false ∧ n = 93 ∧ sizedP n = true) ∨ ((n == 45) = false ∧ (n == 93) = false ∧ n = 285 ∧ sizedP n = true) ∨ ((n == 45) = false ∧ (n == 93) = false ∧ (n == 285) = false ∧ sizedP n = false) := by
    unfold sizedP
    by_cases a : n = 45
    · subst a; exact .inl ⟨rfl, rfl⟩
    · have a' : (n == 45) = false := by simp [a]
      by_cases b : n = 93
      · subst b; exact .inr (.inl ⟨rfl, rfl, rfl⟩)
      · have b' : (n == 93) = false := by simp [b]
        by_cases c : n = 285
        · subst c; exact .inr (.inr (.inl ⟨rfl, rfl, rfl, rfl⟩))
        · have c' : (n == 285) = false := by simp [c]
          exact .inr (.inr (.inr ⟨a', b', c', by simp [a', b', c']⟩))
  rcases cs with ⟨a, hp⟩ | ⟨a, b, hp⟩ | ⟨a, b, c, hp⟩ | ⟨a, b, c, hp⟩
  all_goals
    have HP := Lib.hid hp
    clear hp
    try subst b
    try subst c
    try subst a
    go_enter Tryd.func64, Tryd.ntmps64
    go_wp2
    refine wp_loop_rounds 4 ?_
    rw [rounds_succ]
    go_wp2
    try (rw [rounds_succ]; go_wp2)
    try (rw [rounds_succ]; go_wp2)
    try (rw [rounds_succ]; go_wp2)
    go_ret
    exact ⟨by rw [HP.out]; rfl, rfl⟩
end Go.Proofs.YtkpmlcgbffdloaaDoor
