/-
  SWEEP: the document's own Took, New; the law's own comparison of both.
-/
import Derived.Test.YtoejfgjdmcamaaaSweepRef
import Derived.Test.YtoejfgjdmcamaaaSweepName
import Derived.Test.YtoejfgjdmcamaaaSweep7
import Derived.BigRegion
namespace Go.Proofs.Ytoejfgjdmcamaaa
open Go.RowKit
set_option linter.unusedVariables false
set_option maxRecDepth 100000

set_option maxHeartbeats 1000000 in
theorem tookM_no (q : Nat) (s : SS) (c : Int) (A : Option Addr) (n m : Nat) (t : Bool) (v f l : Int) (w : World) (h : isM w q s) (hw : s.waits = false) :
    Calls Try.prog 11 #[.pointer (some ⟨q, 0, none⟩), .agg (gotV c A n m t v f l)] w (mPost q s (.int .i64 170) w) := by
  have h' : isM (w.alloc (.cells (gotV c A n m t v f l) 36)) q s := h.keep ((keepBut.refl [] w).alloc _) (by simp)
  have hk := (keepBut.refl [q] w).alloc (.cells (gotV c A n m t v f l) 36)
  unfold gotV at h' hk ⊢
  have gc6 : (w.alloc (.cells #[.int .i64 c, .slice A n m, .bool t, .int .i64 v, .int .i64 f, .int .i64 l] 36)).cell? ⟨q, 6, none⟩ = some (.bool s.waits) := h'.cell 6
  rw [hw] at gc6
  have H := Lib.hid (And.intro h' hk)
  clear h' hk h hw
  go_enter Try.func11, Try.ntmps11
  go_wp2_with fail
  go_ret
  exact ⟨rfl, H.out⟩

set_option maxHeartbeats 16000000 in
theorem tookM_any (q : Nat) (s : SS) (c : Int) (A : Option Addr) (n m : Nat) (t : Bool) (v f l : Int) (w : World) (h : isM w q s) (hok : s.ok) (hw : s.waits = true) :
    Calls Try.prog 11 #[.pointer (some ⟨q, 0, none⟩), .agg (gotV c A n m t v f l)] w (mPost q (s.res c (f != l)) (.int .i64 0) w) := by
  have h' : isM (w.alloc (.cells (gotV c A n m t v f l) 36)) q s := h.keep ((keepBut.refl [] w).alloc _) (by simp)
  have hr := rowAt.new w 36 (gotV c A n m t v f l)
  have hk := (keepBut.refl [q] w).alloc (.cells (gotV c A n m t v f l) 36)
  have hne1 : w.heap.size ≠ q := Nat.ne_of_gt (rowAt.lt h)
  unfold gotV at h' hk hr ⊢
  have gc6 : (w.alloc (.cells #[.int .i64 c, .slice A n m, .bool t, .int .i64 v, .int .i64 f, .int .i64 l] 36)).cell? ⟨q, 6, none⟩ = some (.bool s.waits) := h'.cell 6
  have gf6 : (w.alloc (.cells #[.int .i64 c, .slice A n m, .bool t, .int .i64 v, .int .i64 f, .int .i64 l] 36)).frozen? ⟨q, 6, none⟩ = false := h'.free 6
  rw [hw] at gc6
  have e1 : isM ((w.alloc (.cells #[.int .i64 c, .slice A n m, .bool t, .int .i64 v, .int .i64 f, .int .i64 l] 36)).setCell ⟨q, 6, none⟩ (.bool false)) q { s with waits := false } := h'.st 6 (.bool false) rfl
  have e2 := hk.setCell ⟨q, 6, none⟩ (.bool false) (by simp)
  have e3 := ((keepBut.refl [q] _).setCell ⟨q, 6, none⟩ (.bool false) (by simp)).row hr (by simpa using hne1)
  have hp3 := hok.wt hw
  have hp1 := hok.p1
  have l0 := hok.l0
  have l1 := hok.l1
  have n0 := hok.n0
  have n1 := hok.n1
  have m0 := hok.m0
  have m1 := hok.m1
  have H := Lib.hid (And.intro e1 (And.intro e2 e3))
  clear h' hk h hw e1 e2 e3 hr hok
  go_enter Try.func11, Try.ntmps11
  go_upto_region 4 with fail
  obtain ⟨e1, e2, e3⟩ := H.out
  clear gc6 gf6 H
  generalize (w.alloc (.cells #[.int .i64 c, .slice A n m, .bool t, .int .i64 v, .int .i64 f, .int .i64 l] 36)).setCell ⟨q, 6, none⟩ (.bool false) = w2 at *
  generalize hb : w.heap.size = b at *
  have HB := Lib.hid hb; clear hb
  have g0 : w2.cell? ⟨b, 0, none⟩ = some (.int .i64 c) := e3.cell 0
  have g4 : w2.cell? ⟨b, 4, none⟩ = some (.int .i64 f) := e3.cell 4
  have g5 : w2.cell? ⟨b, 5, none⟩ = some (.int .i64 l) := e3.cell 5
  have c0 : w2.cell? ⟨q, 0, none⟩ = some (.int .i64 s.ph) := e1.cell 0
  have c1 : w2.cell? ⟨q, 1, none⟩ = some (.int .i64 (onOf s)) := e1.cell 1
  have c2 : w2.cell? ⟨q, 2, none⟩ = some (.int .i64 s.pat) := e1.cell 2
  have c3 : w2.cell? ⟨q, 3, none⟩ = some (.int .i64 s.late) := e1.cell 3
  have c4 : w2.cell? ⟨q, 4, none⟩ = some (.int .i64 s.seen) := e1.cell 4
  have c5 : w2.cell? ⟨q, 5, none⟩ = some (.int .i64 s.sealed) := e1.cell 5
  have f0 : w2.frozen? ⟨q, 0, none⟩ = false := e1.free 0
  have f3 : w2.frozen? ⟨q, 3, none⟩ = false := e1.free 3
  have f4 : w2.frozen? ⟨q, 4, none⟩ = false := e1.free 4
  have f5 : w2.frozen? ⟨q, 5, none⟩ = false := e1.free 5
  by_cases h2 : c = 212
  · subst h2
    have e4 : isM (w2.setCell ⟨q, 3, none⟩ (.int .i64 (s.late + 1))) q { s with waits := false, late := s.late + 1 } := e1.st 3 _ rfl
    have e5 := e2.setCell ⟨q, 3, none⟩ (.int .i64 (s.late + 1)) (by simp)
    have H4 := Lib.hid (And.intro e4 e5)
    clear e1 e2 e3 e4 e5
    by_cases hl : s.pat < s.late + 1
    · have HE := Lib.hid (show s.res 212 (f != l) = SS.fail { s with waits := false, late := s.late + 1 } 212 by simp [SS.res, hl])
      go_wp2_with fail
      go_region
      go_wp2_with (go_at_call 28; refine (failsM_any _ _ _ _ (H4.out.1.keep ((keepBut.refl [] _).drewN _) (by simp))).mono ?_; rintro e w' ⟨rfl, a1, a2⟩)
      go_ret
      rw [HE.out]
      exact ⟨rfl, a1, (H4.out.2.drewN 1).then a2 (by simp)⟩
    · have HE := Lib.hid (show s.res 212 (f != l) = { s with waits := false, late := s.late + 1 } by simp [SS.res, hl])
      have hl' : s.late + 1 ≤ s.pat := by omega
      go_wp2_with fail
      go_region
      go_wp2_with fail
      go_ret
      rw [HE.out]
      exact ⟨rfl, H4.out.1.keep ((keepBut.refl [] _).drewN 1) (by simp), H4.out.2.drewN 1⟩
  · have e4 : isM (w2.setCell ⟨q, 3, none⟩ (.int .i64 0)) q { s with waits := false, late := 0 } := e1.st 3 (.int .i64 0) rfl
    have e5 := e2.setCell ⟨q, 3, none⟩ (.int .i64 0) (by simp)
    have H4 := Lib.hid (And.intro e4 e5)
    clear e1 e2 e3 e4 e5
    have hp : s.ph = 1 ∨ s.ph = 2 ∨ s.ph = 3 := by omega
    rcases hp with hp | hp | hp
    all_goals rw [hp] at c0
    · by_cases k0 : c = 0
      · subst k0
        have HE := Lib.hid (show s.res 0 (f != l) = SS.goOn { s with waits := false, late := 0 } by simp [SS.res, SS.took1, hp])
        have H5 := Lib.hid (And.intro (H4.out.1.st 0 (.int .i64 (onOf s)) (s' := SS.goOn { s with waits := false, late := 0 }) rfl) (H4.out.2.setCell ⟨q, 0, none⟩ (.int .i64 (onOf s)) (by simp)))
        go_wp2_with fail
        go_ret
        rw [HE.out]
        exact ⟨rfl, H5.out⟩
      · by_cases k1 : c = 211
        · subst k1
          have HE := Lib.hid (show s.res 211 (f != l) = SS.goOn { s with waits := false, late := 0 } by simp [SS.res, SS.took1, hp])
          have H5 := Lib.hid (And.intro (H4.out.1.st 0 (.int .i64 (onOf s)) (s' := SS.goOn { s with waits := false, late := 0 }) rfl) (H4.out.2.setCell ⟨q, 0, none⟩ (.int .i64 (onOf s)) (by simp)))
          go_wp2_with fail
          go_ret
          rw [HE.out]
          exact ⟨rfl, H5.out⟩
        · have HE := Lib.hid (show s.res c (f != l) = SS.fail { s with waits := false, late := 0 } c by simp [SS.res, SS.took1, hp, h2, k0, k1])
          have k0b : (c == 0) = false := by simpa using k0
          have k1b : (c == 211) = false := by simpa using k1
          go_wp2_with (go_at_call 28; refine (failsM_any _ _ _ _ H4.out.1).mono ?_; rintro e w' ⟨rfl, a1, a2⟩)
          go_ret
          rw [HE.out]
          exact ⟨rfl, a1, H4.out.2.then a2 (by simp)⟩
    · by_cases k0 : c = 0
      · subst k0
        have HE := Lib.hid (show s.res 0 (f != l) = { s with waits := false, late := 0 } by simp [SS.res, SS.took1, hp])
        go_wp2_with fail
        go_ret
        rw [HE.out]
        exact ⟨rfl, H4.out⟩
      · by_cases k1 : c = 210
        · subst k1
          have HE := Lib.hid (show s.res 210 (f != l) = { s with waits := false, late := 0, ph := 3 } by simp [SS.res, SS.took1, hp])
          have H5 := Lib.hid (And.intro (H4.out.1.st 0 (.int .i64 3) (s' := { s with waits := false, late := 0, ph := 3 }) rfl) (H4.out.2.setCell ⟨q, 0, none⟩ (.int .i64 3) (by simp)))
          go_wp2_with fail
          go_ret
          rw [HE.out]
          exact ⟨rfl, H5.out⟩
        · have HE := Lib.hid (show s.res c (f != l) = SS.fail { s with waits := false, late := 0 } c by simp [SS.res, SS.took1, hp, h2, k0, k1])
          have k0b : (c == 0) = false := by simpa using k0
          have k1b : (c == 210) = false := by simpa using k1
          go_wp2_with (go_at_call 28; refine (failsM_any _ _ _ _ H4.out.1).mono ?_; rintro e w' ⟨rfl, a1, a2⟩)
          go_ret
          rw [HE.out]
          exact ⟨rfl, a1, H4.out.2.then a2 (by simp)⟩
    · by_cases k0 : c = 0
      · subst k0
        by_cases hd : f = l
        · have HE := Lib.hid (show s.res 0 (f != l) = { s with waits := false, late := 0, seen := s.seen + 1 } by simp [SS.res, SS.took1, hp, hd])
          have H5 := Lib.hid (And.intro (H4.out.1.st 4 (.int .i64 (s.seen + 1)) (s' := { s with waits := false, late := 0, seen := s.seen + 1 }) rfl) (H4.out.2.setCell ⟨q, 4, none⟩ (.int .i64 (s.seen + 1)) (by simp)))
          go_wp2_with fail
          go_ret
          rw [HE.out]
          exact ⟨rfl, H5.out⟩
        · have HE := Lib.hid (show s.res 0 (f != l) = { s with waits := false, late := 0, seen := s.seen + 1, sealed := s.sealed + 1 } by simp [SS.res, SS.took1, hp, hd])
          have H5 := Lib.hid (And.intro ((H4.out.1.st 4 (.int .i64 (s.seen + 1)) (s' := { s with waits := false, late := 0, seen := s.seen + 1 }) rfl).st 5 (.int .i64 (s.sealed + 1)) (s' := { s with waits := false, late := 0, seen := s.seen + 1, sealed := s.sealed + 1 }) rfl) ((H4.out.2.setCell ⟨q, 4, none⟩ (.int .i64 (s.seen + 1)) (by simp)).setCell ⟨q, 5, none⟩ (.int .i64 (s.sealed + 1)) (by simp)))
          go_wp2_with fail
          go_ret
          rw [HE.out]
          exact ⟨rfl, H5.out⟩
      · by_cases k1 : c = 210
        · subst k1
          have HE := Lib.hid (show s.res 210 (f != l) = { s with waits := false, late := 0, ph := 4 } by simp [SS.res, SS.took1, hp])
          have H5 := Lib.hid (And.intro (H4.out.1.st 0 (.int .i64 4) (s' := { s with waits := false, late := 0, ph := 4 }) rfl) (H4.out.2.setCell ⟨q, 0, none⟩ (.int .i64 4) (by simp)))
          go_wp2_with fail
          go_ret
          rw [HE.out]
          exact ⟨rfl, H5.out⟩
        · have HE := Lib.hid (show s.res c (f != l) = SS.fail { s with waits := false, late := 0 } c by simp [SS.res, SS.took1, hp, h2, k0, k1])
          have k0b : (c == 0) = false := by simpa using k0
          have k1b : (c == 210) = false := by simpa using k1
          go_wp2_with (go_at_call 28; refine (failsM_any _ _ _ _ H4.out.1).mono ?_; rintro e w' ⟨rfl, a1, a2⟩)
          go_ret
          rw [HE.out]
          exact ⟨rfl, a1, H4.out.2.then a2 (by simp)⟩
end Go.Proofs.Ytoejfgjdmcamaaa
