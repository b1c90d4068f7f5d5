/-
  SWEEP, 5: New; the statements' next and took.
-/
import Derived.Test.YtoejfgjdmcamaaaSweep3
import Derived.Test.YtoejfgjdmcamaaaAggs
namespace Go.Proofs.Ytoejfgjdmcamaaa
open Go.RowKit
set_option linter.unusedVariables false
set_option maxRecDepth 100000

def SS.new (rot back : Bool) (pat : Int) : SS := ⟨if rot then 1 else if back then 2 else 3, back, pat, false, 0, 0, 0, 0⟩
theorem SS.new_ok (rot back : Bool) (pat : Int) (h0 : 0 ≤ pat) (h1 : pat ≤ 100) : (SS.new rot back pat).ok :=
  ⟨by unfold SS.new; cases rot <;> cases back <;> simp, by unfold SS.new; cases rot <;> cases back <;> simp, h0, h1, by simp [SS.new], by simp [SS.new], by simp [SS.new], by simp [SS.new], by simp [SS.new], by simp [SS.new], fun h => by cases h⟩
def newSPost (s : SS) (w : World) (e : Ending) (w' : World) : Prop :=
  ∃ p, e = .returned (.tuple #[.pointer (some ⟨p, 0, none⟩), .int .i64 0]) ∧ isS w' p s ∧ keepBut [] w w' ∧ w.heap.size ≤ p
def zeroName : Array Value := #[.int .u8 0, .int .u8 0, .int .u8 0, .int .u8 0, .int .u8 0, .int .u8 0, .int .u8 0, .int .u8 0, .int .u8 0, .int .u8 0, .int .u8 0, .int .u8 0, .int .u8 0, .int .u8 0, .int .u8 0, .int .u8 0, .int .u8 0, .int .u8 0, .int .u8 0, .int .u8 0, .int .u8 0, .int .u8 0, .int .u8 0, .int .u8 0, .int .u8 0, .int .u8 0, .int .u8 0, .int .u8 0, .int .u8 0, .int .u8 0, .int .u8 0, .int .u8 0]
theorem build_name (w : World) : (Instr.build 23 #[]).run Try.prog w = .ok (.agg zeroName) w := by kernel_rfl
theorem guard_name : Try.prog.eqGuardType Try.prog.depth 23 = false := by kernel_rfl
theorem info_name : (Try.prog.info? 23).map (·.size) = some 32 := by kernel_rfl

set_option maxHeartbeats 1000000 in
theorem newS_any (rot bk : Bool) (pat : Int) (bs : Array Value) (w : World) (h0 : 0 ≤ pat) (h1 : pat ≤ 100) (hs : bs.size = 32)
    (hq : ∀ w, (binOp .neq 23 (.agg bs) (.agg zeroName)).run Try.prog w = .ok (.bool bk) w) :
    Calls Try.prog 6 #[.bool rot, .agg bs, .int .i64 pat] w (newSPost (SS.new rot bk pat) w) := by
  have hl : ¬ pat < 0 := by omega
  have hg : ¬ (100 : Int) < pat := by omega
  have HI := Lib.hid (show (Try.prog.info? 23).map (·.size) = some bs.size by rw [hs]; exact info_name)
  have HQ := Lib.hid hq
  have hk2 := ((keepBut.refl [] w).alloc (.cells bs 23)).alloc (.cells #[.int .i64 0, .bool bk, .int .i64 pat, .bool false, .int .i64 0, .int .i64 0, .int .i64 0, .int .i64 0] 57)
  have hr2 := rowAt.new (w.alloc (.cells bs 23)) 57 #[.int .i64 0, .bool bk, .int .i64 pat, .bool false, .int .i64 0, .int .i64 0, .int .i64 0, .int .i64 0]
  have hz : w.heap.size ≤ (w.alloc (.cells bs 23)).heap.size := by simp
  have H := Lib.hid (And.intro hk2 (And.intro hr2 hz))
  clear hq hs hk2 hr2 hz
  go_enter Try.func6, Try.ntmps6
  go_upto_region 3 with (with_reducible refine wpList_box_agg _ rfl 23 (.tmp 1) rfl bs rfl ?_)
  go_upto_region 4 with (first | (with_reducible refine wpList_load_row rfl 23 (.tmp 4) rfl w.heap.size rfl _ bs _ _ (heap_alloc_new w _) Try.underlying23 rfl HI.out ?_) | (with_reducible refine wpList_build_v _ rfl 23 rfl _ (build_name _) ?_) | (with_reducible refine wpList_bin_agg _ rfl .neq 23 23 (.tmp 15) (.tmp 16) rfl guard_name bs zeroName rfl rfl _ (HQ.out _) ?_))
  obtain ⟨hk2, hr2, hz⟩ := H.out
  clear H HI HQ
  generalize (w.alloc (.cells bs 23)).alloc (.cells #[.int .i64 0, .bool bk, .int .i64 pat, .bool false, .int .i64 0, .int .i64 0, .int .i64 0, .int .i64 0] 57) = w2 at *
  rw [World.size_alloc] at hr2 hz
  generalize w.heap.size + 1 = p at *
  have c0 : w2.cell? ⟨p, 0, none⟩ = some (.int .i64 0) := hr2.cell 0
  have f0 := hr2.free 0
  cases rot with
  | true =>
    have e1 : isS (w2.setCell ⟨p, 0, none⟩ (.int .i64 1)) p (SS.new true bk pat) := by
      have := rowAt.set hr2 0 (.int .i64 1)
      simpa [isS, SS.new] using this
    have e2 := hk2.setCell ⟨p, 0, none⟩ (.int .i64 1) (.inr hz)
    have H := Lib.hid (And.intro e1 (And.intro e2 hz))
    clear e1 e2 hr2 hk2 hz
    go_wp2
    go_ret2
    exact ⟨p, rfl, H.out⟩
  | false =>
    have e1 : isS w2 p ⟨0, bk, pat, false, 0, 0, 0, 0⟩ := hr2
    have H := Lib.hid (And.intro e1 (And.intro hk2 hz))
    clear e1 hr2 hk2 hz
    go_wp2_with (go_at_call 21; refine (goOn_any _ _ _ H.out.1).mono ?_; rintro e w' ⟨rfl, a1, a2⟩)
    go_ret2
    exact ⟨p, rfl, a1, H.out.2.1.then a2 (by simpa using H.out.2.2), H.out.2.2⟩
end Go.Proofs.Ytoejfgjdmcamaaa
