/-
  SESS, 5: what table.Check asks of a request, its small parts.
-/
import Derived.Test.YtkpmlcgbffdloaaDoorSess4
namespace Go.Proofs.YtkpmlcgbffdloaaDoor
open Go.RowKit
set_option linter.unusedVariables false
set_option maxRecDepth 100000

theorem isClient_any (n : Int) (w : World) : Calls Tryd.prog 61 #[.int .i64 n] w fun e w' => e = .returned (.bool (inP n 0 2)) ∧ w = w' := by
  by_cases h0 : 0 ≤ n
  · by_cases h1 : n < 3
    · go_enter Tryd.func61, Tryd.ntmps61
      go_wp2
      go_ret
      exact ⟨by rw [inP_yes ⟨h0, by omega⟩]; rfl, rfl⟩
    · go_enter Tryd.func61, Tryd.ntmps61
      go_wp2
      go_ret
      exact ⟨by rw [inP_no (by omega)]; rfl, rfl⟩
  · go_enter Tryd.func61, Tryd.ntmps61
    go_wp2
    go_ret
    exact ⟨by rw [inP_no (by omega)]; rfl, rfl⟩
theorem isPositive_any (n : Int) (w : World) : Calls Tryd.prog 62 #[.int .i64 n] w fun e w' => e = .returned (.bool (inP n 1 9007199254740991)) ∧ w = w' := by
  by_cases h0 : 1 ≤ n
  · by_cases h1 : n ≤ 9007199254740991
    · go_enter Tryd.func62, Tryd.ntmps62
      go_wp2
      go_ret
      exact ⟨by rw [inP_yes ⟨h0, h1⟩]; rfl, rfl⟩
    · go_enter Tryd.func62, Tryd.ntmps62
      go_wp2
      go_ret
      exact ⟨by rw [inP_no (by omega)]; rfl, rfl⟩
  · go_enter Tryd.func62, Tryd.ntmps62
    go_wp2
    go_ret
    exact ⟨by rw [inP_no (by omega)]; rfl, rfl⟩
theorem told_any (b : Bool) (w : World) : Calls Tryd.prog 63 #[.bool b] w fun e w' => e = .returned (.int .i64 (toldP b)) ∧ w = w' := by
  cases b
  all_goals
    go_enter Tryd.func63, Tryd.ntmps63
    go_wp2
    go_ret
    exact ⟨rfl, rfl⟩
end Go.Proofs.YtkpmlcgbffdloaaDoor
