/-
  SWEEP: the document's own New; both News of a patience that may not be; the law's own comparison of both.
-/
import Derived.Test.YtoejfgjdmcamaaaSweepTook
namespace Go.Proofs.Ytoejfgjdmcamaaa
open Go.RowKit
set_option linter.unusedVariables false
set_option maxRecDepth 100000

def newMPost (s : SS) (w : World) (e : Ending) (w' : World) : Prop :=
  ∃ q, e = .returned (.tuple #[.pointer (some ⟨q, 0, none⟩), .int .i64 0]) ∧ isM w' q s ∧ keepBut [] w w' ∧ w.heap.size ≤ q

set_option maxHeartbeats 1000000 in
theorem newM_any (rot bk : Bool) (pat : Int) (bs : Array Value) (w : World) (h0 : 0 ≤ pat) (h1 : pat ≤ 100) (hs : bs.size = 32)
    (hq : ∀ w, (binOp .neq 23 (.agg bs) (.agg zeroName)).run Try.prog w = .ok (.bool bk) w) :
    Calls Try.prog 7 #[.bool rot, .agg bs, .int .i64 pat] w (newMPost (SS.new rot bk pat) w) := by
  have hl : ¬ pat < 0 := by omega
  have hg : ¬ (100 : Int) < pat := by omega
  have HI := Lib.hid (show (Try.prog.info? 23).map (·.size) = some bs.size by rw [hs]; exact info_name)
  have HQ := Lib.hid hq
  have hk2 := ((keepBut.refl [] w).alloc (.cells bs 23)).alloc (.cells #[.int .i64 0, .int .i64 3, .int .i64 pat, .int .i64 0, .int .i64 0, .int .i64 0, .bool false, .int .i64 0] 59)
  have hr2 := rowAt.new (w.alloc (.cells bs 23)) 59 #[.int .i64 0, .int .i64 3, .int .i64 pat, .int .i64 0, .int .i64 0, .int .i64 0, .bool false, .int .i64 0]
  have hz : w.heap.size ≤ (w.alloc (.cells bs 23)).heap.size := by simp
  have H := Lib.hid (And.intro hk2 (And.intro hr2 hz))
  have hb0 : ((w.alloc (.cells bs 23)).alloc (.cells #[.int .i64 0, .int .i64 3, .int .i64 pat, .int .i64 0, .int .i64 0, .int .i64 0, .bool false, .int .i64 0] 59)).heap[w.heap.size]? = some (.cells bs 23 (0, 0)) :=
    ((keepBut.refl [] (w.alloc (.cells bs 23))).alloc _).row (rowAt.new w 23 bs) (by simp)
  have HB0 := Lib.hid hb0
  clear hq hs hk2 hr2 hz hb0
  go_enter Try.func7, Try.ntmps7
  go_upto_region 4 with (with_reducible refine wpList_box_agg _ rfl 23 (.tmp 1) rfl bs rfl ?_)
  go_upto_if 20 with (first | (with_reducible refine wpList_load_row rfl 23 (.tmp 4) rfl w.heap.size rfl _ bs _ _ HB0.out Try.underlying23 rfl HI.out ?_) | (with_reducible refine wpList_build_v _ rfl 23 rfl _ (build_name _) ?_) | (with_reducible refine wpList_bin_agg _ rfl .neq 23 23 (.tmp 18) (.tmp 19) rfl guard_name bs zeroName rfl rfl _ (HQ.out _) ?_))
  obtain ⟨hk2, hr2, hz⟩ := H.out
  clear H HI HQ HB0
  generalize (w.alloc (.cells bs 23)).alloc (.cells #[.int .i64 0, .int .i64 3, .int .i64 pat, .int .i64 0, .int .i64 0, .int .i64 0, .bool false, .int .i64 0] 59) = w2 at *
  rw [World.size_alloc] at hr2 hz
  generalize w.heap.size + 1 = q at *
  have c0 : w2.cell? ⟨q, 0, none⟩ = some (.int .i64 0) := hr2.cell 0
  have c1 : w2.cell? ⟨q, 1, none⟩ = some (.int .i64 3) := hr2.cell 1
  have f0 := hr2.free 0
  have f1 := hr2.free 1
  cases bk <;> cases rot
  · have e1 : isM (w2.setCell ⟨q, 0, none⟩ (.int .i64 3)) q (SS.new false false pat) := by
      have := (hr2.set 0 (.int .i64 3))
      simpa [isM, rowM, SS.new, onOf] using this
    have H := Lib.hid (And.intro e1 (And.intro (hk2.setCell ⟨q, 0, none⟩ (.int .i64 3) (.inr hz)) hz))
    clear e1 hr2 hk2 hz
    go_wp2_with fail
    go_ret2
    exact ⟨q, rfl, H.out⟩
  · have e1 : isM ((w2.setCell ⟨q, 0, none⟩ (.int .i64 3)).setCell ⟨q, 0, none⟩ (.int .i64 1)) q (SS.new true false pat) := by
      have := ((hr2.set 0 (.int .i64 3)).set 0 (.int .i64 1))
      simpa [isM, rowM, SS.new, onOf] using this
    have H := Lib.hid (And.intro e1 (And.intro ((hk2.setCell ⟨q, 0, none⟩ (.int .i64 3) (.inr hz)).setCell ⟨q, 0, none⟩ (.int .i64 1) (.inr hz)) hz))
    clear e1 hr2 hk2 hz
    go_wp2_with fail
    go_ret2
    exact ⟨q, rfl, H.out⟩
  · have e1 : isM ((w2.setCell ⟨q, 1, none⟩ (.int .i64 2)).setCell ⟨q, 0, none⟩ (.int .i64 2)) q (SS.new false true pat) := by
      have := ((hr2.set 1 (.int .i64 2)).set 0 (.int .i64 2))
      simpa [isM, rowM, SS.new, onOf] using this
    have H := Lib.hid (And.intro e1 (And.intro ((hk2.setCell ⟨q, 1, none⟩ (.int .i64 2) (.inr hz)).setCell ⟨q, 0, none⟩ (.int .i64 2) (.inr hz)) hz))
    clear e1 hr2 hk2 hz
    go_wp2_with fail
    go_ret2
    exact ⟨q, rfl, H.out⟩
  · have e1 : isM (((w2.setCell ⟨q, 1, none⟩ (.int .i64 2)).setCell ⟨q, 0, none⟩ (.int .i64 2)).setCell ⟨q, 0, none⟩ (.int .i64 1)) q (SS.new true true pat) := by
      have := (((hr2.set 1 (.int .i64 2)).set 0 (.int .i64 2)).set 0 (.int .i64 1))
      simpa [isM, rowM, SS.new, onOf] using this
    have H := Lib.hid (And.intro e1 (And.intro (((hk2.setCell ⟨q, 1, none⟩ (.int .i64 2) (.inr hz)).setCell ⟨q, 0, none⟩ (.int .i64 2) (.inr hz)).setCell ⟨q, 0, none⟩ (.int .i64 1) (.inr hz)) hz))
    clear e1 hr2 hk2 hz
    go_wp2_with fail
    go_ret2
    exact ⟨q, rfl, H.out⟩

set_option maxHeartbeats 1000000 in
theorem newM_no (rot : Bool) (pat : Int) (bs : Array Value) (w : World) (h : pat < 0 ∨ 100 < pat) :
    Calls Try.prog 7 #[.bool rot, .agg bs, .int .i64 pat] w fun e w' => e = .returned (.tuple #[.pointer none, .int .i64 2]) ∧ keepBut [] w w' := by
  have hk := Lib.hid ((keepBut.refl [] w).alloc (.cells bs 23))
  have hor : pat < 0 ∨ (¬ pat < 0 ∧ 100 < pat) := by omega
  clear h
  rcases hor with hor | ⟨hor, hor2⟩
  all_goals
    go_enter Try.func7, Try.ntmps7
    go_wp2_with (with_reducible refine wpList_box_agg _ rfl 23 (.tmp 1) rfl bs rfl ?_)
    go_ret2
    exact ⟨rfl, hk.out⟩
set_option maxHeartbeats 1000000 in
theorem newS_no (rot : Bool) (pat : Int) (bs : Array Value) (w : World) (h : pat < 0 ∨ 100 < pat) :
    Calls Try.prog 6 #[.bool rot, .agg bs, .int .i64 pat] w fun e w' => e = .returned (.tuple #[.pointer none, .int .i64 2]) ∧ keepBut [] w w' := by
  have hk := Lib.hid ((keepBut.refl [] w).alloc (.cells bs 23))
  have hor : pat < 0 ∨ (¬ pat < 0 ∧ 100 < pat) := by omega
  clear h
  rcases hor with hor | ⟨hor, hor2⟩
  all_goals
    go_enter Try.func6, Try.ntmps6
    go_wp2_with (with_reducible refine wpList_box_agg _ rfl 23 (.tmp 1) rfl bs rfl ?_)
    go_ret2
    exact ⟨rfl, hk.out⟩

set_option maxHeartbeats 4000000 in
theorem same_any (p q : Nat) (s : SS) (w : World) (hs : isS w p s) (hm : isM w q s) (h1 : 1 ≤ s.ph) :
    Calls Try.prog 12 #[.pointer (some ⟨p, 0, none⟩), .pointer (some ⟨q, 0, none⟩)] w fun e w' => e = .returned (.bool true) ∧ keepBut [] w w' := by
  have c0 : w.cell? ⟨q, 0, none⟩ = some (.int .i64 s.ph) := hm.cell 0
  have c6 : w.cell? ⟨q, 6, none⟩ = some (.bool s.waits) := hm.cell 6
  have c4 : w.cell? ⟨q, 4, none⟩ = some (.int .i64 s.seen) := hm.cell 4
  have c5 : w.cell? ⟨q, 5, none⟩ = some (.int .i64 s.sealed) := hm.cell 5
  have c7 : w.cell? ⟨q, 7, none⟩ = some (.int .i64 s.why) := hm.cell 7
  have H := Lib.hid hs
  clear hs hm
  go_enter Try.func12, Try.ntmps12
  go_upto_region 1 with fail
  go_quiet ((first
    | (go_at_call 16; (with_reducible refine (phase_any p s _ (H.out.keep ((keepBut.refl [] w).drewN _) (by simp)) h1).mono ?_); rintro e w' ⟨rfl, rfl⟩; exact ⟨rfl, _, rfl⟩)
    | (go_at_call 29; (with_reducible refine (waits_any p s _ (H.out.keep ((keepBut.refl [] w).drewN _) (by simp)) h1).mono ?_); rintro e w' ⟨rfl, rfl⟩; exact ⟨rfl, _, rfl⟩)
    | (go_at_call 17; (with_reducible refine (seenS_any p s _ (H.out.keep ((keepBut.refl [] w).drewN _) (by simp)) h1).mono ?_); rintro e w' ⟨rfl, rfl⟩; exact ⟨rfl, _, rfl⟩)
    | (go_at_call 18; (with_reducible refine (sealedS_any p s _ (H.out.keep ((keepBut.refl [] w).drewN _) (by simp)) h1).mono ?_); rintro e w' ⟨rfl, rfl⟩; exact ⟨rfl, _, rfl⟩)
    | (go_at_call 20; (with_reducible refine (why_any p s _ (H.out.keep ((keepBut.refl [] w).drewN _) (by simp)) h1).mono ?_); rintro e w' ⟨rfl, rfl⟩; exact ⟨rfl, _, rfl⟩)))
  go_wp2_with fail
  go_ret
  exact ⟨rfl, (keepBut.refl [] w).drewN _⟩
end Go.Proofs.Ytoejfgjdmcamaaa
