/-
  VIEW, 2: which rows may be; the last step; a row in memory of its own; Add.
-/
import Derived.Test.YtjipokilidhnoaaView1
import Derived.BigQuiet
import Derived.Deep.QuietTactic
namespace Go.Proofs.Ytjipokilidhnoaa
open Go.RowKit
set_option linter.unusedVariables false
set_option maxRecDepth 100000

def VR.okay (r : VR) : Bool := decide (0 ≤ r.step) && decide (r.step ≤ 9007199254740991) && isSrv r.node && decide (1 ≤ r.kind) && decide (r.kind ≤ 3) && decide (r.bytes.length ≤ 65536)
set_option maxHeartbeats 1000000 in
theorem valid_any (r : VR) (A : Option Addr) (c : Nat) (w : World) (hb : r.bytes.length ≤ 140737488355328) :
    Calls Try.prog 26 #[.agg #[.int .i64 r.step, .int .i64 r.node, .int .i64 r.kind, .slice A r.bytes.length c]] w fun e w' => e = .returned (.bool r.okay) ∧ keepBut [] w w' := by
  have hr := rowAt.new w 46 #[.int .i64 r.step, .int .i64 r.node, .int .i64 r.kind, .slice A r.bytes.length c]
  have hk := (keepBut.refl [] w).alloc (.cells #[.int .i64 r.step, .int .i64 r.node, .int .i64 r.kind, .slice A r.bytes.length c] 46)
  obtain ⟨w1, hw1⟩ : ∃ w1, w.alloc (.cells #[.int .i64 r.step, .int .i64 r.node, .int .i64 r.kind, .slice A r.bytes.length c] 46) = w1 := ⟨_, rfl⟩
  rw [hw1] at hr hk
  have c0 : w1.cell? ⟨w.heap.size, 0, none⟩ = some (.int .i64 r.step) := hr.cell 0
  have c1 : w1.cell? ⟨w.heap.size, 1, none⟩ = some (.int .i64 r.node) := hr.cell 1
  have c2 : w1.cell? ⟨w.heap.size, 2, none⟩ = some (.int .i64 r.kind) := hr.cell 2
  have c3 : w1.cell? ⟨w.heap.size, 3, none⟩ = some (.slice A r.bytes.length c) := hr.cell 3
  have HK := Lib.hid hk
  have HW := Lib.hid hw1
  clear hr hk hw1
  obtain ⟨sv, hsv⟩ : ∃ sv, isSrv r.node = sv := ⟨_, rfl⟩
  have HO := Lib.hid (show r.okay = (decide (0 ≤ r.step) && decide (r.step ≤ 9007199254740991) && sv && decide (1 ≤ r.kind) && decide (r.kind ≤ 3) && decide (r.bytes.length ≤ 65536)) by rw [← hsv]; rfl)
  have HS := Lib.hid hsv
  clear hsv
  generalize r.okay = ok at *
  generalize r.bytes.length = L at *
  generalize r.step = s at *
  generalize r.node = nd at *
  generalize r.kind = k at *
  have hcs : s < 0 ∨ (0 ≤ s ∧ ¬ s ≤ 9007199254740991) ∨ (0 ≤ s ∧ s ≤ 9007199254740991 ∧ sv = false) ∨ (0 ≤ s ∧ s ≤ 9007199254740991 ∧ sv = true ∧ ¬ 1 ≤ k) ∨ (0 ≤ s ∧ s ≤ 9007199254740991 ∧ sv = true ∧ 1 ≤ k ∧ ¬ k ≤ 3) ∨ (0 ≤ s ∧ s ≤ 9007199254740991 ∧ sv = true ∧ 1 ≤ k ∧ k ≤ 3) := by
    cases sv <;> simp <;> omega
  rcases hcs with h | ⟨h, h2⟩ | ⟨h, h2, rfl⟩ | ⟨h, h2, rfl, h4⟩ | ⟨h, h2, rfl, h4, h5⟩ | ⟨h, h2, rfl, h4, h5⟩
  all_goals
    try have h' : ¬ 0 ≤ s := by omega
    go_enter Try.func26, Try.ntmps26
    go_upto_region 1 with fail
    rw [HW.out]
    go_wp2_with (go_at_call 52; refine (isServer_any nd _).mono ?_; rintro e w' ⟨rfl, rfl⟩; rw [HS.out])
    go_ret
    refine ⟨?_, HK.out⟩
    rw [HO.out]
    first | (simp [*]; done) | (simp [*]; intros; omega)
end Go.Proofs.Ytjipokilidhnoaa
