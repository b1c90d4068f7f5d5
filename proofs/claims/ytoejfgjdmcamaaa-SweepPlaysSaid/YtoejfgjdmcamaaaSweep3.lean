/-
  SWEEP, 3: Next; the rules; Took.
-/
import Derived.Test.YtoejfgjdmcamaaaSweep2
import Derived.Deep.DeepCutAuto
namespace Go.Proofs.Ytoejfgjdmcamaaa
open Go.RowKit
set_option linter.unusedVariables false
set_option maxRecDepth 100000

/-- the next deed, the error, and what the sweep is then -/
def SS.next (s : SS) : Int × Int × SS := if s.waits || s.ended then (0, 170, s) else (s.deed, 0, { s with waits := true })

theorem next_end {w w1 : World} {p : Nat} {s : SS} (h : isS w1 p s) (hk : keepBut [p] w w1) (hne : p ≠ w.heap.size) (v0 v1 v2 v3 : Value) :
    isS ((((w1.setCell ⟨w.heap.size, 0, none⟩ v0).setCell ⟨w.heap.size, 1, none⟩ v1).setCell ⟨w.heap.size, 2, none⟩ v2).setCell ⟨w.heap.size, 3, none⟩ v3) p s ∧
    keepBut [p] w ((((w1.setCell ⟨w.heap.size, 0, none⟩ v0).setCell ⟨w.heap.size, 1, none⟩ v1).setCell ⟨w.heap.size, 2, none⟩ v2).setCell ⟨w.heap.size, 3, none⟩ v3) := by
  have h4 := ((((keepBut.refl [w.heap.size] w1).setCell ⟨w.heap.size, 0, none⟩ v0 (by simp)).setCell ⟨w.heap.size, 1, none⟩ v1 (by simp)).setCell ⟨w.heap.size, 2, none⟩ v2 (by simp)).setCell ⟨w.heap.size, 3, none⟩ v3 (by simp)
  exact ⟨h.keep h4 (by simpa using hne), hk.then h4 (by simp)⟩

set_option maxHeartbeats 400000 in
theorem next_any (p : Nat) (s : SS) (w : World) (h : isS w p s) (hok : s.ok) :
    Calls Try.prog 8 #[.pointer (some ⟨p, 0, none⟩)] w (sPost p s.next.2.2 (.tuple #[deedV s.next.1, .int .i64 s.next.2.1]) w) := by
  have z0 : rowAt (w.alloc (.cells #[.int .i64 0, .slice none 0 0, .slice none 0 0, .int .i64 0] 40)) w.heap.size 40 #[.int .i64 0, .slice none 0 0, .slice none 0 0, .int .i64 0] := rowAt.new _ _ _
  have h' : isS (w.alloc (.cells #[.int .i64 0, .slice none 0 0, .slice none 0 0, .int .i64 0] 40)) p s := h.keep ((keepBut.refl [] w).alloc _) (by simp)
  have hk := (keepBut.refl [p] w).alloc (.cells #[.int .i64 0, .slice none 0 0, .slice none 0 0, .int .i64 0] 40)
  have hne1 : w.heap.size ≠ p := Nat.ne_of_gt (rowAt.lt h)
  have hne2 : p ≠ w.heap.size := Nat.ne_of_lt (rowAt.lt h)
  generalize hw : w.alloc (.cells #[.int .i64 0, .slice none 0 0, .slice none 0 0, .int .i64 0] 40) = w1 at *
  have HW := Lib.hid hw; clear hw
  have gc3 : w1.cell? ⟨p, 3, none⟩ = some (.bool s.waits) := h'.cell 3
  have gf3 : w1.frozen? ⟨p, 3, none⟩ = false := h'.free 3
  have z0c0 : w1.cell? ⟨w.heap.size, 0, none⟩ = some (.int .i64 0) := z0.cell 0
  have z0c1 : w1.cell? ⟨w.heap.size, 1, none⟩ = some (.slice none 0 0) := z0.cell 1
  have z0c2 : w1.cell? ⟨w.heap.size, 2, none⟩ = some (.slice none 0 0) := z0.cell 2
  have z0c3 : w1.cell? ⟨w.heap.size, 3, none⟩ = some (.int .i64 0) := z0.cell 3
  have z0f0 : w1.frozen? ⟨w.heap.size, 0, none⟩ = false := z0.free 0
  have z0f1 : w1.frozen? ⟨w.heap.size, 1, none⟩ = false := z0.free 1
  have z0f2 : w1.frozen? ⟨w.heap.size, 2, none⟩ = false := z0.free 2
  have z0f3 : w1.frozen? ⟨w.heap.size, 3, none⟩ = false := z0.free 3
  have h1 := hok.p1
  have h5 := hok.p5
  have HH := Lib.hid (And.intro h' (And.intro hk (And.intro z0 (And.intro h hok))))
  clear h' hk z0 h hok
  cases hw : s.waits with
  | true =>
    have HE := Lib.hid (show s.next = (0, 170, s) by simp [SS.next, hw])
    rw [hw] at gc3
    clear hw
    go_enter Try.func8, Try.ntmps8
    go_upto_region 1 with fail
    rw [HW.out]
    go_wp2_with (go_at_call 22; refine (noneS_any _ _ _ HH.out.1 h1).mono ?_; rintro e w' ⟨rfl, rfl⟩)
    refine bodyPost_ret (v := .tuple #[deedV 0, .int .i64 170]) (by simp [results, Try.results8, go_sem, deedV, *]) rfl ?_
    rw [HE.out]
    refine ⟨rfl, ?_⟩
    exact next_end HH.out.1 HH.out.2.1 hne2 _ _ _ _
  | false =>
    have hwt : s.waits = false := hw
    cases he : s.ended with
    | true =>
      have HE := Lib.hid (show s.next = (0, 170, s) by simp [SS.next, he])
      have HX := Lib.hid he
      rw [hw] at gc3
      clear hw hwt he
      go_enter Try.func8, Try.ntmps8
      go_upto_region 1 with fail
      rw [HW.out]
      go_wp2_with (first | (go_at_call 22; refine (noneS_any _ _ _ HH.out.1 h1).mono ?_; rintro e w' ⟨rfl, rfl⟩) | (go_at_call 23; refine (ended_any _ _ _ HH.out.1 h1 h5).mono ?_; rintro e w' ⟨rfl, rfl⟩; rw [HX.out]))
      refine bodyPost_ret (v := .tuple #[deedV 0, .int .i64 170]) (by simp [results, Try.results8, go_sem, deedV, *]) rfl ?_
      rw [HE.out]
      refine ⟨rfl, ?_⟩
      exact next_end HH.out.1 HH.out.2.1 hne2 _ _ _ _
    | false =>
      have HE := Lib.hid (show s.next = (s.deed, 0, { s with waits := true }) by simp [SS.next, he, hwt])
      have HX := Lib.hid he
      have e1 : isS (w1.setCell ⟨p, 3, none⟩ (.bool true)) p { s with waits := true } := by
        have := rowAt.set HH.out.1 3 (.bool true)
        simpa [isS] using this
      have e2 := HH.out.2.1.setCell ⟨p, 3, none⟩ (.bool true) (by simp)
      have e3 := ((keepBut.refl [p] w1).setCell ⟨p, 3, none⟩ (.bool true) (by simp)).row HH.out.2.2.1 (by simpa using hne1)
      have HD := Lib.hid (show SS.deed { s with waits := true } = s.deed from rfl)
      have H2 := Lib.hid (And.intro e1 (And.intro e2 e3))
      rw [hw] at gc3
      clear hw hwt he e1 e2 e3 z0c0 z0c1 z0c2 z0c3 z0f0 z0f1 z0f2 z0f3
      go_enter Try.func8, Try.ntmps8
      go_upto_region 1 with fail
      rw [HW.out]
      go_wp2_with (first | (go_at_call 22; refine (noneS_any _ _ _ HH.out.1 h1).mono ?_; rintro e w' ⟨rfl, rfl⟩) | (go_at_call 23; refine (ended_any _ _ _ HH.out.1 h1 h5).mono ?_; rintro e w' ⟨rfl, rfl⟩; rw [HX.out]) | fail)
      refine (deed_any _ _ _ H2.out.1).mono ?_; rintro e w2 ⟨rfl, hk2⟩
      rw [HD.out]
      have z0 := hk2.row H2.out.2.2 (by simp)
      have z0c0 : w2.cell? ⟨w.heap.size, 0, none⟩ = some (.int .i64 0) := z0.cell 0
      have z0c1 : w2.cell? ⟨w.heap.size, 1, none⟩ = some (.slice none 0 0) := z0.cell 1
      have z0c2 : w2.cell? ⟨w.heap.size, 2, none⟩ = some (.slice none 0 0) := z0.cell 2
      have z0c3 : w2.cell? ⟨w.heap.size, 3, none⟩ = some (.int .i64 0) := z0.cell 3
      have z0f0 : w2.frozen? ⟨w.heap.size, 0, none⟩ = false := z0.free 0
      have z0f1 : w2.frozen? ⟨w.heap.size, 1, none⟩ = false := z0.free 1
      have z0f2 : w2.frozen? ⟨w.heap.size, 2, none⟩ = false := z0.free 2
      have z0f3 : w2.frozen? ⟨w.heap.size, 3, none⟩ = false := z0.free 3
      have H3 := Lib.hid (And.intro (H2.out.1.keep hk2 (by simp)) (H2.out.2.1.then hk2 (by simp)))
      clear z0 hk2
      unfold deedV
      go_wp2
      refine bodyPost_ret (v := .tuple #[deedV s.deed, .int .i64 0]) (by simp [results, Try.results8, go_sem, deedV, *]) rfl ?_
      rw [HE.out]
      refine ⟨rfl, ?_⟩
      exact next_end H3.out.1 H3.out.2 hne2 _ _ _ _
def rulesV : Value := .agg #[.nilFunc, .func (.func 30) #[] #[], .func (.func 31) #[] #[], .func (.func 32) #[] #[]]
set_option maxHeartbeats 400000 in
theorem rules_any (w : World) : Calls Try.prog 27 #[] w (vPost rulesV w) := by
  go_enter Try.func27, Try.ntmps27
  go_wp2
  exact bodyPost_ret (v := rulesV) (by simp [results, go_sem, rulesV]) rfl ⟨rfl, (keepBut.refl [] w).alloc _⟩
end Go.Proofs.Ytoejfgjdmcamaaa
