/-
  SWEEP: the document's own answer, over the same pure sweep.
-/
import Derived.Test.YtoejfgjdmcamaaaSweep3
import Derived.BigQuiet
namespace Go.Proofs.Ytoejfgjdmcamaaa
open Go.RowKit
set_option linter.unusedVariables false
set_option maxRecDepth 100000

def onOf (s : SS) : Int := if s.back then 2 else 3
def rowM (s : SS) : Array Value := #[.int .i64 s.ph, .int .i64 (onOf s), .int .i64 s.pat, .int .i64 s.late, .int .i64 s.seen, .int .i64 s.sealed, .bool s.waits, .int .i64 s.why]
def isM (w : World) (q : Nat) (s : SS) : Prop := rowAt w q 59 (rowM s)
theorem isM.keep {S : List Nat} {w w' : World} {q : Nat} {s : SS} (h : isM w q s) (hk : keepBut S w w') (hS : q ∉ S) : isM w' q s := hk.row h hS
theorem isM.st {w : World} {q : Nat} {s s' : SS} (h : isM w q s) (i : Nat) (v : Value) (hv : (rowM s).setIfInBounds i v = rowM s') : isM (w.setCell ⟨q, i, none⟩ v) q s' := by
  have := rowAt.set h i v
  rw [hv] at this
  exact this
def mPost (q : Nat) (s' : SS) (v : Value) (w : World) (e : Ending) (w' : World) : Prop := e = .returned v ∧ isM w' q s' ∧ keepBut [q] w w'

set_option maxHeartbeats 400000 in
theorem endedM_any (q : Nat) (s : SS) (w : World) (h : isM w q s) :
    Calls Try.prog 25 #[.pointer (some ⟨q, 0, none⟩)] w fun e w' => e = .returned (.bool s.ended) ∧ w = w' := by
  have hc0 : w.cell? ⟨q, 0, none⟩ = some (.int .i64 s.ph) := h.cell 0
  clear h
  go_enter Try.func25, Try.ntmps25
  go_wp2
  go_ret
  exact ⟨rfl, rfl⟩
set_option maxHeartbeats 400000 in
theorem failsM_any (q : Nat) (s : SS) (c : Int) (w : World) (h : isM w q s) :
    Calls Try.prog 28 #[.pointer (some ⟨q, 0, none⟩), .int .i64 c] w (mPost q (s.fail c) (.tuple #[]) w) := by
  have hc0 : w.cell? ⟨q, 0, none⟩ = some (.int .i64 s.ph) := h.cell 0
  have hc7 : w.cell? ⟨q, 7, none⟩ = some (.int .i64 s.why) := h.cell 7
  have hf0 := h.free 0
  have hf7 := h.free 7
  have e1 : isM ((w.setCell ⟨q, 0, none⟩ (.int .i64 5)).setCell ⟨q, 7, none⟩ (.int .i64 c)) q (s.fail c) := (h.st 0 (.int .i64 5) (s' := { s with ph := 5 }) rfl).st 7 (.int .i64 c) rfl
  have e2 := ((keepBut.refl [q] w).setCell ⟨q, 0, none⟩ (.int .i64 5) (by simp)).setCell ⟨q, 7, none⟩ (.int .i64 c) (by simp)
  have H := Lib.hid (And.intro e1 e2)
  clear h e1 e2
  go_enter Try.func28, Try.ntmps28
  go_wp2
  go_end0
  exact ⟨rfl, H.out⟩
theorem nextM_end {w w1 : World} {q : Nat} {s : SS} (h : isM w1 q s) (hk : keepBut [q] w w1) (hne : q ≠ w.heap.size) (v0 v1 v2 v3 : Value) :
    isM ((((w1.setCell ⟨w.heap.size, 0, none⟩ v0).setCell ⟨w.heap.size, 1, none⟩ v1).setCell ⟨w.heap.size, 2, none⟩ v2).setCell ⟨w.heap.size, 3, none⟩ v3) q s ∧
    keepBut [q] w ((((w1.setCell ⟨w.heap.size, 0, none⟩ v0).setCell ⟨w.heap.size, 1, none⟩ v1).setCell ⟨w.heap.size, 2, none⟩ v2).setCell ⟨w.heap.size, 3, none⟩ v3) := by
  have h4 := ((((keepBut.refl [w.heap.size] w1).setCell ⟨w.heap.size, 0, none⟩ v0 (by simp)).setCell ⟨w.heap.size, 1, none⟩ v1 (by simp)).setCell ⟨w.heap.size, 2, none⟩ v2 (by simp)).setCell ⟨w.heap.size, 3, none⟩ v3 (by simp)
  exact ⟨h.keep h4 (by simpa using hne), hk.then h4 (by simp)⟩

set_option maxHeartbeats 1000000 in
theorem nextM_any (q : Nat) (s : SS) (w : World) (h : isM w q s) :
    Calls Try.prog 9 #[.pointer (some ⟨q, 0, none⟩)] w (mPost q s.next.2.2 (.tuple #[deedV s.next.1, .int .i64 s.next.2.1]) w) := by
  have z0 : rowAt (w.alloc (.cells #[.int .i64 0, .slice none 0 0, .slice none 0 0, .int .i64 0] 40)) w.heap.size 40 #[.int .i64 0, .slice none 0 0, .slice none 0 0, .int .i64 0] := rowAt.new _ _ _
  have h' : isM (w.alloc (.cells #[.int .i64 0, .slice none 0 0, .slice none 0 0, .int .i64 0] 40)) q s := h.keep ((keepBut.refl [] w).alloc _) (by simp)
  have hk := (keepBut.refl [q] w).alloc (.cells #[.int .i64 0, .slice none 0 0, .slice none 0 0, .int .i64 0] 40)
  have hne1 : w.heap.size ≠ q := Nat.ne_of_gt (rowAt.lt h)
  have hne2 : q ≠ w.heap.size := Nat.ne_of_lt (rowAt.lt h)
  generalize hw : w.alloc (.cells #[.int .i64 0, .slice none 0 0, .slice none 0 0, .int .i64 0] 40) = w1 at *
  have HW := Lib.hid hw; clear hw
  have gc6 : w1.cell? ⟨q, 6, none⟩ = some (.bool s.waits) := h'.cell 6
  have gc0 : w1.cell? ⟨q, 0, none⟩ = some (.int .i64 s.ph) := h'.cell 0
  have gf6 : w1.frozen? ⟨q, 6, none⟩ = false := h'.free 6
  have z0c0 : w1.cell? ⟨w.heap.size, 0, none⟩ = some (.int .i64 0) := z0.cell 0
  have z0c1 : w1.cell? ⟨w.heap.size, 1, none⟩ = some (.slice none 0 0) := z0.cell 1
  have z0c2 : w1.cell? ⟨w.heap.size, 2, none⟩ = some (.slice none 0 0) := z0.cell 2
  have z0c3 : w1.cell? ⟨w.heap.size, 3, none⟩ = some (.int .i64 0) := z0.cell 3
  have z0f0 : w1.frozen? ⟨w.heap.size, 0, none⟩ = false := z0.free 0
  have z0f1 : w1.frozen? ⟨w.heap.size, 1, none⟩ = false := z0.free 1
  have z0f2 : w1.frozen? ⟨w.heap.size, 2, none⟩ = false := z0.free 2
  have z0f3 : w1.frozen? ⟨w.heap.size, 3, none⟩ = false := z0.free 3
  have HH := Lib.hid (And.intro h' (And.intro hk h))
  clear h' hk z0 h
  cases hw : s.waits with
  | true =>
    have HE := Lib.hid (show s.next = (0, 170, s) by simp [SS.next, hw])
    rw [hw] at gc6
    clear hw
    go_enter Try.func9, Try.ntmps9
    go_upto_region 1 with fail
    rw [HW.out]
    go_wp2_with fail
    refine bodyPost_ret (v := .tuple #[deedV 0, .int .i64 170]) (by simp [results, Try.results9, go_sem, deedV, *]) rfl ?_
    rw [HE.out]
    refine ⟨rfl, ?_⟩
    exact nextM_end HH.out.1 HH.out.2.1 hne2 _ _ _ _
  | false =>
    have hwt : s.waits = false := hw
    cases he : s.ended with
    | true =>
      have HE := Lib.hid (show s.next = (0, 170, s) by simp [SS.next, he])
      have HX := Lib.hid he
      rw [hw] at gc6
      clear hw hwt he
      go_enter Try.func9, Try.ntmps9
      go_upto_region 1 with fail
      rw [HW.out]
      go_wp2_with (go_at_call 25; refine (endedM_any _ _ _ HH.out.1).mono ?_; rintro e w' ⟨rfl, rfl⟩; rw [HX.out])
      refine bodyPost_ret (v := .tuple #[deedV 0, .int .i64 170]) (by simp [results, Try.results9, go_sem, deedV, *]) rfl ?_
      rw [HE.out]
      refine ⟨rfl, ?_⟩
      exact nextM_end HH.out.1 HH.out.2.1 hne2 _ _ _ _
    | false =>
      have HE := Lib.hid (show s.next = (s.deed, 0, { s with waits := true }) by simp [SS.next, he, hwt])
      have HX := Lib.hid he
      have e1 : isM (w1.setCell ⟨q, 6, none⟩ (.bool true)) q { s with waits := true } := HH.out.1.st 6 (.bool true) rfl
      have e2 := HH.out.2.1.setCell ⟨q, 6, none⟩ (.bool true) (by simp)
      have H2 := Lib.hid (And.intro e1 e2)
      rw [hw] at gc6
      clear hw hwt he e1 e2
      by_cases hp : s.ph = 1
      · have HD := Lib.hid (show s.deed = 5 by simp [SS.deed, hp])
        rw [hp] at gc0
        go_enter Try.func9, Try.ntmps9
        go_upto_region 1 with fail
        rw [HW.out]
        go_wp2_with (go_at_call 25; refine (endedM_any _ _ _ HH.out.1).mono ?_; rintro e w' ⟨rfl, rfl⟩; rw [HX.out])
        refine bodyPost_ret (v := .tuple #[deedV 5, .int .i64 0]) (by simp [results, Try.results9, go_sem, deedV, *]) rfl ?_
        rw [HE.out, HD.out]
        refine ⟨rfl, ?_⟩
        exact nextM_end H2.out.1 H2.out.2 hne2 _ _ _ _
      · have HD := Lib.hid (show s.deed = 6 by simp [SS.deed, hp])
        go_enter Try.func9, Try.ntmps9
        go_upto_region 1 with fail
        rw [HW.out]
        go_wp2_with (go_at_call 25; refine (endedM_any _ _ _ HH.out.1).mono ?_; rintro e w' ⟨rfl, rfl⟩; rw [HX.out])
        refine bodyPost_ret (v := .tuple #[deedV 6, .int .i64 0]) (by simp [results, Try.results9, go_sem, deedV, *]) rfl ?_
        rw [HE.out, HD.out]
        refine ⟨rfl, ?_⟩
        exact nextM_end H2.out.1 H2.out.2 hne2 _ _ _ _
end Go.Proofs.Ytoejfgjdmcamaaa
