/-
  LEAD, 15: the leader that is none: nil, or zero.
-/
import Derived.Test.YtbjonlfjfjlelaaLead12
namespace Go.Proofs.Ytbjonlfjfjlelaa
open Go.RowKit
set_option linter.unusedVariables false
set_option maxRecDepth 100000

def nilL (w : World) (v : Option Addr) : Prop := v = none ∨ ∃ p, v = some ⟨p, 0, none⟩ ∧ w.cell? ⟨p, 0, none⟩ = some (.bool false)
theorem nilL.over {w w' : World} {v : Option Addr} (h : nilL w v) (hk : keepBut [] w w') : nilL w' v := by
  rcases h with rfl | ⟨p, rfl, hc⟩
  · exact .inl rfl
  · exact .inr ⟨p, rfl, (hk.cell (p := ⟨p, 0, none⟩) (World.block_lt_of_cell? w _ hc) (by simp)).trans hc⟩

set_option maxHeartbeats 400000 in
theorem noneLN_any (v : Option Addr) (w : World) (h : nilL w v) :
    Calls Try.prog 72 #[.pointer v] w fun e w' => e = .returned (.bool true) ∧ w = w' := by
  rcases h with rfl | ⟨p, rfl, hc⟩
  all_goals
    go_enter Try.func72, Try.ntmps72
    go_wp2
    go_ret
    exact ⟨rfl, rfl⟩
theorem startLN (v : Option Addr) (a b : Int) (w : World) (h : nilL w v) :
    Calls Try.prog 39 #[.pointer v, .int .i64 a, .int .i64 b] w fun e w' => e = .returned (.tuple #[.int .i64 0, .int .i64 1]) ∧ w = w' := by
  go_enter Try.func39, Try.ntmps39
  go_wp2_with (go_at_call 72; refine (noneLN_any _ _ h).mono ?_; rintro e w' ⟨rfl, rfl⟩)
  go_ret2
  exact ⟨rfl, rfl⟩
theorem promiseLN (v : Option Addr) (a b : Int) (w : World) (h : nilL w v) :
    Calls Try.prog 43 #[.pointer v, .int .i64 a, .int .i64 b, .slice none 0 0] w fun e w' => e = .returned (.tuple #[.bool false, .int .i64 1]) ∧ w = w' := by
  go_enter Try.func43, Try.ntmps43
  go_wp2_with (go_at_call 72; refine (noneLN_any _ _ h).mono ?_; rintro e w' ⟨rfl, rfl⟩)
  go_ret2
  exact ⟨rfl, rfl⟩
theorem yesLN (v : Option Addr) (a b c : Int) (w : World) (h : nilL w v) :
    Calls Try.prog 46 #[.pointer v, .int .i64 a, .int .i64 b, .int .i64 c] w fun e w' => e = .returned (.tuple #[.bool false, .int .i64 1]) ∧ w = w' := by
  go_enter Try.func46, Try.ntmps46
  go_wp2_with (go_at_call 72; refine (noneLN_any _ _ h).mono ?_; rintro e w' ⟨rfl, rfl⟩)
  go_ret2
  exact ⟨rfl, rfl⟩
theorem noLN (v : Option Addr) (a : Int) (w : World) (h : nilL w v) :
    Calls Try.prog 47 #[.pointer v, .int .i64 a] w fun e w' => e = .returned (.int .i64 1) ∧ w = w' := by
  go_enter Try.func47, Try.ntmps47
  go_wp2_with (go_at_call 72; refine (noneLN_any _ _ h).mono ?_; rintro e w' ⟨rfl, rfl⟩)
  go_ret
  exact ⟨rfl, rfl⟩
theorem ballotLN (v : Option Addr) (w : World) (h : nilL w v) :
    Calls Try.prog 30 #[.pointer v] w fun e w' => e = .returned (.int .i64 0) ∧ w = w' := by
  go_enter Try.func30, Try.ntmps30
  go_wp2_with (go_at_call 72; refine (noneLN_any _ _ h).mono ?_; rintro e w' ⟨rfl, rfl⟩)
  go_ret
  exact ⟨rfl, rfl⟩
theorem fromLN (v : Option Addr) (w : World) (h : nilL w v) :
    Calls Try.prog 31 #[.pointer v] w fun e w' => e = .returned (.int .i64 0) ∧ w = w' := by
  go_enter Try.func31, Try.ntmps31
  go_wp2_with (go_at_call 72; refine (noneLN_any _ _ h).mono ?_; rintro e w' ⟨rfl, rfl⟩)
  go_ret
  exact ⟨rfl, rfl⟩
theorem phaseLN (v : Option Addr) (w : World) (h : nilL w v) :
    Calls Try.prog 32 #[.pointer v] w fun e w' => e = .returned (.int .i64 0) ∧ w = w' := by
  go_enter Try.func32, Try.ntmps32
  go_wp2_with (go_at_call 72; refine (noneLN_any _ _ h).mono ?_; rintro e w' ⟨rfl, rfl⟩)
  go_ret
  exact ⟨rfl, rfl⟩

def vPost (v : Value) (w : World) (e : Ending) (w' : World) : Prop := e = .returned v ∧ keepBut [] w w'
theorem zero_store {w w1 : World} (hk : keepBut [] w w1) (b : Nat) (hb : w.heap.size ≤ b) (v0 v1 v2 : Value) : keepBut [] w (((w1.setCell ⟨b, 0, none⟩ v0).setCell ⟨b, 1, none⟩ v1).setCell ⟨b, 2, none⟩ v2) :=
  ((hk.setCell ⟨b, 0, none⟩ v0 (.inr hb)).setCell ⟨b, 1, none⟩ v1 (.inr hb)).setCell ⟨b, 2, none⟩ v2 (.inr hb)

set_option maxHeartbeats 1000000 in
theorem boundLN (v : Option Addr) (a : Int) (w : World) (h : nilL w v) :
    Calls Try.prog 35 #[.pointer v, .int .i64 a] w (vPost (.tuple #[.agg #[.int .i64 0, .int .i64 0, .slice none 0 0], .bool false]) w) := by
  have k1 := (keepBut.refl [] w).alloc (.cells #[.int .i64 0, .int .i64 0, .slice none 0 0] 55)
  have h1 := h.over k1
  have r1 := rowAt.new w 55 #[.int .i64 0, .int .i64 0, .slice none 0 0]
  generalize hw1 : w.alloc (.cells #[.int .i64 0, .int .i64 0, .slice none 0 0] 55) = w1 at *
  have HW1 := Lib.hid hw1
  have z0 : w1.cell? ⟨w.heap.size, 0, none⟩ = some (.int .i64 0) := r1.cell 0
  have z1 : w1.cell? ⟨w.heap.size, 1, none⟩ = some (.int .i64 0) := r1.cell 1
  have z2 : w1.cell? ⟨w.heap.size, 2, none⟩ = some (.slice none 0 0) := r1.cell 2
  have zf0 := r1.free 0
  have zf1 := r1.free 1
  have zf2 := r1.free 2
  have HK := Lib.hid k1
  clear r1 hw1 k1 h
  go_enter Try.func35, Try.ntmps35
  go_upto_region 1 with fail
  rw [HW1.out]
  go_wp2_with (go_at_call 72; refine (noneLN_any _ _ h1).mono ?_; rintro e w' ⟨rfl, rfl⟩)
  refine bodyPost_ret (v := .tuple #[.agg #[.int .i64 0, .int .i64 0, .slice none 0 0], .bool false]) (by simp [results, Try.results35, go_sem, *]) rfl ?_
  exact ⟨rfl, zero_store HK.out _ (Nat.le_refl _) _ _ _⟩
set_option maxHeartbeats 1000000 in
theorem pendingLN (v : Option Addr) (w : World) (h : nilL w v) :
    Calls Try.prog 33 #[.pointer v] w (vPost (.tuple #[.agg #[.int .i64 0, .int .i64 0, .slice none 0 0], .bool false]) w) := by
  have k1 := (keepBut.refl [] w).alloc (.cells #[.int .i64 0, .int .i64 0, .slice none 0 0] 55)
  have h1 := h.over k1
  have r1 := rowAt.new w 55 #[.int .i64 0, .int .i64 0, .slice none 0 0]
  generalize hw1 : w.alloc (.cells #[.int .i64 0, .int .i64 0, .slice none 0 0] 55) = w1 at *
  have HW1 := Lib.hid hw1
  have z0 : w1.cell? ⟨w.heap.size, 0, none⟩ = some (.int .i64 0) := r1.cell 0
  have z1 : w1.cell? ⟨w.heap.size, 1, none⟩ = some (.int .i64 0) := r1.cell 1
  have z2 : w1.cell? ⟨w.heap.size, 2, none⟩ = some (.slice none 0 0) := r1.cell 2
  have zf0 := r1.free 0
  have zf1 := r1.free 1
  have zf2 := r1.free 2
  have HK := Lib.hid k1
  clear r1 hw1 k1 h
  go_enter Try.func33, Try.ntmps33
  go_upto_region 1 with fail
  rw [HW1.out]
  go_wp2_with (go_at_call 72; refine (noneLN_any _ _ h1).mono ?_; rintro e w' ⟨rfl, rfl⟩)
  refine bodyPost_ret (v := .tuple #[.agg #[.int .i64 0, .int .i64 0, .slice none 0 0], .bool false]) (by simp [results, Try.results33, go_sem, *]) rfl ?_
  exact ⟨rfl, zero_store HK.out _ (Nat.le_refl _) _ _ _⟩
set_option maxHeartbeats 1000000 in
theorem proposeLN (v : Option Addr) (a b : Int) (A : Option Addr) (n m : Nat) (w : World) (h : nilL w v) :
    Calls Try.prog 45 #[.pointer v, .agg #[.int .i64 a, .int .i64 b, .slice A n m]] w (vPost (.tuple #[.agg #[.int .i64 0, .int .i64 0, .slice none 0 0], .int .i64 1]) w) := by
  have k1 := ((keepBut.refl [] w).alloc (.cells #[.int .i64 a, .int .i64 b, .slice A n m] 55)).alloc (.cells #[.int .i64 0, .int .i64 0, .slice none 0 0] 55)
  have h1 := h.over k1
  have r1 := rowAt.new (w.alloc (.cells #[.int .i64 a, .int .i64 b, .slice A n m] 55)) 55 #[.int .i64 0, .int .i64 0, .slice none 0 0]
  rw [World.size_alloc] at r1
  generalize hw1 : (w.alloc (.cells #[.int .i64 a, .int .i64 b, .slice A n m] 55)).alloc (.cells #[.int .i64 0, .int .i64 0, .slice none 0 0] 55) = w1 at *
  have HW1 := Lib.hid hw1
  have z0 : w1.cell? ⟨w.heap.size + 1, 0, none⟩ = some (.int .i64 0) := r1.cell 0
  have z1 : w1.cell? ⟨w.heap.size + 1, 1, none⟩ = some (.int .i64 0) := r1.cell 1
  have z2 : w1.cell? ⟨w.heap.size + 1, 2, none⟩ = some (.slice none 0 0) := r1.cell 2
  have zf0 := r1.free 0
  have zf1 := r1.free 1
  have zf2 := r1.free 2
  have HK := Lib.hid k1
  clear r1 hw1 k1 h
  go_enter Try.func45, Try.ntmps45
  go_upto_region 1 with fail
  rw [HW1.out]
  go_wp2_with (go_at_call 72; refine (noneLN_any _ _ h1).mono ?_; rintro e w' ⟨rfl, rfl⟩)
  refine bodyPost_ret (v := .tuple #[.agg #[.int .i64 0, .int .i64 0, .slice none 0 0], .int .i64 1]) (by simp [results, Try.results45, go_sem, *]) rfl ?_
  exact ⟨rfl, zero_store HK.out _ (by omega) _ _ _⟩
end Go.Proofs.Ytbjonlfjfjlelaa
