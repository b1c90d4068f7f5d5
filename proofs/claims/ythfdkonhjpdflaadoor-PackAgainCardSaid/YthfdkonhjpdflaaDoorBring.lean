/-
  BRING: the statements' own helper Bring.
-/
import Derived.Test.YthfdkonhjpdflaaDoorAppend
import Derived.Handy
namespace Go.Proofs.YthfdkonhjpdflaaDoor
open Go.RowKit
set_option linter.unusedVariables false

set_option maxHeartbeats 400000 in
theorem bring_any (i n : Int) (hi : -9223372036854775808 ≤ i) (hi' : i ≤ 9223372036854775807) (hn : 0 < n) (hn' : n ≤ 9223372036854775807) (w : World) :
    Calls Tryd.prog 20 #[.int .i64 i, .int .i64 n] w fun e w' => e = .returned (.int .i64 (i % n)) ∧ w = w' := by
  have h0 : n ≠ 0 := by omega
  have h1 : i.tmod n < n := Int.tmod_lt_of_pos i hn
  have h2 : -n < i.tmod n := by have := Int.lt_tmod_of_pos i hn; omega
  have h3 : i % n = if i.tmod n < 0 then i.tmod n + n else i.tmod n := by
    have e1 := Int.tmod_add_mul_tdiv i n
    have e2 : i % n = (i.tmod n) % n := by
      conv => lhs; rw [← e1]
      simp
    rw [e2]
    split
    · rw [← Int.add_emod_right, Int.emod_eq_of_lt (by omega) (by omega)]
    · rw [Int.emod_eq_of_lt (by omega) (by omega)]
  have H3 := Lib.hid h3
  clear h3
  go_enter Tryd.func20, Tryd.ntmps20
  go_wp2
  all_goals
    rename_i ht
    go_ret
    rw [H3.out]
    first | rw [if_pos ht] | rw [if_neg (by omega)]
    exact ⟨rfl, rfl⟩

end Go.Proofs.YthfdkonhjpdflaaDoor
