/-
  DISK, 10: the disk that is none: nil, or zero.
-/
import Derived.Test.YtbjonlfjfjlelaaDiskTrace
namespace Go.Proofs.Ytbjonlfjfjlelaa
open Go.RowKit
set_option linter.unusedVariables false
set_option maxRecDepth 100000

/-- no disk: nil, or one that nobody made -/
def nilD (w : World) (v : Option Addr) : Prop := v = none ∨ ∃ p, v = some ⟨p, 0, none⟩ ∧ w.cell? ⟨p, 3, none⟩ = some .nilFunc

theorem run_equalIn_nil_nil {P : Program} (w : World) (n : Nat) {t : TypeId} {ps rs : Array TypeId} {v : Bool} (ht : P.underlying t = some (.func ps rs v)) :
    (Op.equalIn (n + 1) t .nilFunc .nilFunc).run P w = .ok true w := by
  simp [Op.equalIn, run_underlying ht]
theorem run_eql_nil_nil {P : Program} (w : World) {t : TypeId} {ps rs : Array TypeId} {v : Bool} (ht : P.underlying t = some (.func ps rs v)) :
    (binOp .eql t .nilFunc .nilFunc).run P w = .ok (.bool true) w := by
  simp only [binOp]
  simp [Op.equal, Op.maxDepth, run_equalIn_nil_nil w 9999 ht]

set_option maxHeartbeats 400000 in
theorem noneD_any (v : Option Addr) (w : World) (h : nilD w v) :
    Calls Try.prog 60 #[.pointer v] w fun e w' => e = .returned (.bool true) ∧ w = w' := by
  rcases h with rfl | ⟨p, rfl, hc⟩
  · go_enter Try.func60, Try.ntmps60
    go_wp2
    go_ret
    exact ⟨rfl, rfl⟩
  · have hq := run_eql_nil_nil (P := Try.prog) w Try.underlying42
    go_enter Try.func60, Try.ntmps60
    go_wp2
    go_ret
    exact ⟨rfl, rfl⟩
theorem readyN_any (v : Option Addr) (w : World) (h : nilD w v) :
    Calls Try.prog 58 #[.pointer v] w fun e w' => e = .returned (.int .i64 1) ∧ w = w' := by
  go_enter Try.func58, Try.ntmps58
  go_wp2_with (go_at_call 60; refine (noneD_any _ _ h).mono ?_; rintro e w' ⟨rfl, rfl⟩)
  go_ret
  exact ⟨rfl, rfl⟩
theorem writeN_any (v : Option Addr) (a : Value) (w : World) (h : nilD w v) (ha : a = .slice none 0 0) :
    Calls Try.prog 16 #[.pointer v, a] w fun e w' => e = .returned (.int .i64 1) ∧ w = w' := by
  subst ha
  go_enter Try.func16, Try.ntmps16
  go_wp2_with (go_at_call 58; refine (readyN_any _ _ h).mono ?_; rintro e w' ⟨rfl, rfl⟩)
  go_ret
  exact ⟨rfl, rfl⟩
theorem swapN_any (v : Option Addr) (a : Value) (w : World) (h : nilD w v) (ha : a = .slice none 0 0) :
    Calls Try.prog 17 #[.pointer v, a] w fun e w' => e = .returned (.int .i64 1) ∧ w = w' := by
  subst ha
  go_enter Try.func17, Try.ntmps17
  go_wp2_with (go_at_call 58; refine (readyN_any _ _ h).mono ?_; rintro e w' ⟨rfl, rfl⟩)
  go_ret
  exact ⟨rfl, rfl⟩
theorem syncN_any (v : Option Addr) (w : World) (h : nilD w v) :
    Calls Try.prog 25 #[.pointer v] w fun e w' => e = .returned (.int .i64 1) ∧ w = w' := by
  go_enter Try.func25, Try.ntmps25
  go_wp2_with (go_at_call 58; refine (readyN_any _ _ h).mono ?_; rintro e w' ⟨rfl, rfl⟩)
  go_ret
  exact ⟨rfl, rfl⟩
theorem cutN_any (v : Option Addr) (k : Int) (w : World) (h : nilD w v) :
    Calls Try.prog 19 #[.pointer v, .int .i64 k] w fun e w' => e = .returned (.int .i64 1) ∧ w = w' := by
  go_enter Try.func19, Try.ntmps19
  go_wp2_with (go_at_call 58; refine (readyN_any _ _ h).mono ?_; rintro e w' ⟨rfl, rfl⟩)
  go_ret
  exact ⟨rfl, rfl⟩
theorem armN_any (v : Option Addr) (k : Int) (w : World) (h : nilD w v) :
    Calls Try.prog 21 #[.pointer v, .int .i64 k] w fun e w' => e = .returned (.int .i64 1) ∧ w = w' := by
  go_enter Try.func21, Try.ntmps21
  go_wp2_with (go_at_call 58; refine (readyN_any _ _ h).mono ?_; rintro e w' ⟨rfl, rfl⟩)
  go_ret
  exact ⟨rfl, rfl⟩
theorem crashN_any (v : Option Addr) (k : Int) (w : World) (h : nilD w v) :
    Calls Try.prog 22 #[.pointer v, .int .i64 k] w fun e w' => e = .returned (.int .i64 1) ∧ w = w' := by
  go_enter Try.func22, Try.ntmps22
  go_wp2_with (go_at_call 60; refine (noneD_any _ _ h).mono ?_; rintro e w' ⟨rfl, rfl⟩)
  go_ret
  exact ⟨rfl, rfl⟩
theorem reviveN_any (v : Option Addr) (w : World) (h : nilD w v) :
    Calls Try.prog 26 #[.pointer v] w fun e w' => e = .returned (.int .i64 1) ∧ w = w' := by
  go_enter Try.func26, Try.ntmps26
  go_wp2_with (go_at_call 60; refine (noneD_any _ _ h).mono ?_; rintro e w' ⟨rfl, rfl⟩)
  go_ret
  exact ⟨rfl, rfl⟩
theorem readN_any (v : Option Addr) (w : World) (h : nilD w v) :
    Calls Try.prog 24 #[.pointer v] w fun e w' => e = .returned (.slice none 0 0) ∧ w = w' := by
  go_enter Try.func24, Try.ntmps24
  go_wp2_with (go_at_call 60; refine (noneD_any _ _ h).mono ?_; rintro e w' ⟨rfl, rfl⟩)
  go_ret
  exact ⟨rfl, rfl⟩
theorem traceN_any (v : Option Addr) (w : World) (h : nilD w v) :
    Calls Try.prog 18 #[.pointer v] w fun e w' => e = .returned (.slice none 0 0) ∧ w = w' := by
  go_enter Try.func18, Try.ntmps18
  go_wp2_with (go_at_call 60; refine (noneD_any _ _ h).mono ?_; rintro e w' ⟨rfl, rfl⟩)
  go_ret
  exact ⟨rfl, rfl⟩
theorem syncedN_any (v : Option Addr) (w : World) (h : nilD w v) :
    Calls Try.prog 20 #[.pointer v] w fun e w' => e = .returned (.int .i64 0) ∧ w = w' := by
  go_enter Try.func20, Try.ntmps20
  go_wp2_with (go_at_call 60; refine (noneD_any _ _ h).mono ?_; rintro e w' ⟨rfl, rfl⟩)
  go_ret
  exact ⟨rfl, rfl⟩
theorem deadN_any (v : Option Addr) (w : World) (h : nilD w v) :
    Calls Try.prog 23 #[.pointer v] w fun e w' => e = .returned (.bool false) ∧ w = w' := by
  go_enter Try.func23, Try.ntmps23
  go_wp2_with (go_at_call 60; refine (noneD_any _ _ h).mono ?_; rintro e w' ⟨rfl, rfl⟩)
  go_ret
  exact ⟨rfl, rfl⟩
end Go.Proofs.Ytbjonlfjfjlelaa
