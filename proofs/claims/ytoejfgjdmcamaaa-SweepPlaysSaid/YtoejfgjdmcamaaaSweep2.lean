/-
  SWEEP, 2: ended, deed, Next, what a result does, Took.
-/
import Derived.Test.YtoejfgjdmcamaaaSweep1
import Derived.Lib.Hide
namespace Go.Proofs.Ytoejfgjdmcamaaa
open Go.RowKit
set_option linter.unusedVariables false
set_option maxRecDepth 100000

def SS.ended (s : SS) : Bool := decide (4 ≤ s.ph)
set_option maxHeartbeats 400000 in
theorem ended_any (p : Nat) (s : SS) (w : World) (h : isS w p s) (h1 : 1 ≤ s.ph) (h5 : s.ph ≤ 5) :
    Calls Try.prog 23 #[.pointer (some ⟨p, 0, none⟩)] w fun e w' => e = .returned (.bool s.ended) ∧ w = w' := by
  have hc0 : w.cell? ⟨p, 0, none⟩ = some (.int .i64 s.ph) := h.cell 0
  clear h
  by_cases h4 : s.ph = 4
  · have HE := Lib.hid (show s.ended = true by simp [SS.ended, h4])
    rw [h4] at hc0
    clear h4 h1 h5
    go_enter Try.func23, Try.ntmps23
    go_wp2
    go_ret
    exact ⟨by rw [HE.out]; rfl, rfl⟩
  · by_cases h6 : s.ph = 5
    · have HE := Lib.hid (show s.ended = true by simp [SS.ended, h6])
      rw [h6] at hc0
      clear h4 h6 h1 h5
      go_enter Try.func23, Try.ntmps23
      go_wp2
      go_ret
      exact ⟨by rw [HE.out]; rfl, rfl⟩
    · have HE := Lib.hid (show s.ended = false by simp [SS.ended]; omega)
      have t4 : (s.ph == 4) = false := by simpa using h4
      have t5 : (s.ph == 5) = false := by simpa using h6
      clear h4 h6 h1 h5
      go_enter Try.func23, Try.ntmps23
      go_wp2
      go_ret
      exact ⟨by rw [HE.out]; rfl, rfl⟩

def deedV (k : Int) : Value := .agg #[.int .i64 k, .slice none 0 0, .slice none 0 0, .int .i64 0]
def SS.deed (s : SS) : Int := if s.ph = 1 then 5 else 6
/-- the answer is v; nothing that was there has changed -/
def vPost (v : Value) (w : World) (e : Ending) (w' : World) : Prop := e = .returned v ∧ keepBut [] w w'

set_option maxHeartbeats 400000 in
theorem deed_any (p : Nat) (s : SS) (w : World) (h : isS w p s) :
    Calls Try.prog 24 #[.pointer (some ⟨p, 0, none⟩)] w (vPost (deedV s.deed) w) := by
  have hc0 : w.cell? ⟨p, 0, none⟩ = some (.int .i64 s.ph) := h.cell 0
  have gc0 : (w.alloc (.cells #[.int .i64 0, .slice none 0 0, .slice none 0 0, .int .i64 0] 40)).cell? ⟨p, 0, none⟩ = some (.int .i64 s.ph) := (h.keep ((keepBut.refl [] w).alloc _) (by simp)).cell 0
  clear h hc0
  by_cases h4 : s.ph = 1
  · have HE := Lib.hid (show s.deed = 5 by simp [SS.deed, h4])
    rw [h4] at gc0
    clear h4
    go_enter Try.func24, Try.ntmps24
    go_wp2
    exact bodyPost_ret (v := deedV 5) (by simp [results, Try.results24, go_sem, deedV]) rfl ⟨by rw [HE.out], (keepBut.refl [] w).alloc _⟩
  · have HE := Lib.hid (show s.deed = 6 by simp [SS.deed, h4])
    have t4 : (s.ph == 1) = false := by simpa using h4
    clear h4
    go_enter Try.func24, Try.ntmps24
    go_wp2
    exact bodyPost_ret (v := deedV 6) (by simp [results, Try.results24, go_sem, deedV]) rfl ⟨by rw [HE.out], (keepBut.refl [] w).alloc _⟩

/-- a result -/
def gotV (c : Int) (A : Option Addr) (n m : Nat) (t : Bool) (v f l : Int) : Array Value := #[.int .i64 c, .slice A n m, .bool t, .int .i64 v, .int .i64 f, .int .i64 l]

/-- what a result does in its phase; no, if it may not be -/
def SS.took1 (s : SS) (c : Int) (dif : Bool) : Bool × SS :=
  if s.ph = 1 then (if c = 0 then (true, s.goOn) else if c = 211 then (true, s.goOn) else (false, s))
  else if s.ph = 2 then (if c = 210 then (true, { s with ph := 3 }) else if c = 0 then (true, s) else (false, s))
  else (if c = 0 then (true, { s with seen := s.seen + 1, sealed := if dif then s.sealed + 1 else s.sealed }) else if c = 210 then (true, { s with ph := 4 }) else (false, s))

set_option maxHeartbeats 400000 in
theorem tookRotate_any (p : Nat) (s : SS) (c : Int) (A : Option Addr) (n m : Nat) (t : Bool) (v f l : Int) (w : World) (h : isS w p s) (h1 : s.ph = 1) :
    Calls Try.prog 30 #[.pointer (some ⟨p, 0, none⟩), .agg (gotV c A n m t v f l)] w (sPost p (s.took1 c (f != l)).2 (.bool (s.took1 c (f != l)).1) w) := by
  have h' : isS (w.alloc (.cells (gotV c A n m t v f l) 36)) p s := h.keep ((keepBut.refl [] w).alloc _) (by simp)
  have hk := (keepBut.refl [p] w).alloc (.cells (gotV c A n m t v f l) 36)
  unfold gotV at h' hk ⊢
  by_cases h0 : c = 0
  · subst h0
    have HE := Lib.hid (show s.took1 0 (f != l) = (true, s.goOn) by simp [SS.took1, h1])
    have H := Lib.hid (And.intro h' hk)
    clear h' hk h h1
    go_enter Try.func30, Try.ntmps30
    go_wp2_with (go_at_call 21; refine (goOn_any _ _ _ H.out.1).mono ?_; rintro e w' ⟨rfl, a1, a2⟩)
    go_ret
    rw [HE.out]; exact ⟨rfl, a1, H.out.2.then a2 (by simp)⟩
  · by_cases h2 : c = 211
    · subst h2
      have HE := Lib.hid (show s.took1 211 (f != l) = (true, s.goOn) by simp [SS.took1, h1])
      have H := Lib.hid (And.intro h' hk)
      clear h' hk h h1 h0
      go_enter Try.func30, Try.ntmps30
      go_wp2_with (go_at_call 21; refine (goOn_any _ _ _ H.out.1).mono ?_; rintro e w' ⟨rfl, a1, a2⟩)
      go_ret
      rw [HE.out]; exact ⟨rfl, a1, H.out.2.then a2 (by simp)⟩
    · have HE := Lib.hid (show s.took1 c (f != l) = (false, s) by simp [SS.took1, h1, h0, h2])
      have H := Lib.hid (And.intro h' hk)
      have t0 : (c == 0) = false := by simpa using h0
      have t2 : (c == 211) = false := by simpa using h2
      have t0' : (c != 0) = true := by simpa using h0
      have t2' : (c != 211) = true := by simpa using h2
      clear h' hk h h1 h0 h2
      go_enter Try.func30, Try.ntmps30
      go_wp2
      go_ret
      rw [HE.out]; exact ⟨rfl, H.out⟩

set_option maxHeartbeats 400000 in
theorem tookBack_any (p : Nat) (s : SS) (c : Int) (A : Option Addr) (n m : Nat) (t : Bool) (v f l : Int) (w : World) (h : isS w p s) (h1 : s.ph = 2) :
    Calls Try.prog 31 #[.pointer (some ⟨p, 0, none⟩), .agg (gotV c A n m t v f l)] w (sPost p (s.took1 c (f != l)).2 (.bool (s.took1 c (f != l)).1) w) := by
  have hc0 : w.cell? ⟨p, 0, none⟩ = some (.int .i64 s.ph) := h.cell 0
  have hf0 := h.free 0
  have h' : isS (w.alloc (.cells (gotV c A n m t v f l) 36)) p s := h.keep ((keepBut.refl [] w).alloc _) (by simp)
  have hk := (keepBut.refl [p] w).alloc (.cells (gotV c A n m t v f l) 36)
  have hne1 : w.heap.size ≠ p := Nat.ne_of_gt (rowAt.lt h)
  have hne2 : p ≠ w.heap.size := Nat.ne_of_lt (rowAt.lt h)
  unfold gotV at h' hk ⊢
  have gc0 : (w.alloc (.cells #[.int .i64 c, .slice A n m, .bool t, .int .i64 v, .int .i64 f, .int .i64 l] 36)).cell? ⟨p, 0, none⟩ = some (.int .i64 s.ph) := h'.cell 0
  have gf0 : (w.alloc (.cells #[.int .i64 c, .slice A n m, .bool t, .int .i64 v, .int .i64 f, .int .i64 l] 36)).frozen? ⟨p, 0, none⟩ = false := h'.free 0
  clear hc0 hf0
  by_cases h0 : c = 210
  · subst h0
    have HE := Lib.hid (show s.took1 210 (f != l) = (true, { s with ph := 3 }) by simp [SS.took1, h1])
    have e1 : isS ((w.alloc (.cells #[.int .i64 210, .slice A n m, .bool t, .int .i64 v, .int .i64 f, .int .i64 l] 36)).setCell ⟨p, 0, none⟩ (.int .i64 3)) p { s with ph := 3 } := by
      have := rowAt.set h' 0 (.int .i64 3)
      simpa [isS] using this
    have e2 := hk.setCell ⟨p, 0, none⟩ (.int .i64 3) (by simp)
    have H := Lib.hid (And.intro e1 e2)
    clear h' hk h h1 e1 e2
    go_enter Try.func31, Try.ntmps31
    go_wp2
    go_ret
    rw [HE.out]; exact ⟨rfl, H.out⟩
  · by_cases h2 : c = 0
    · subst h2
      have HE := Lib.hid (show s.took1 0 (f != l) = (true, s) by simp [SS.took1, h1])
      have H := Lib.hid (And.intro h' hk)
      clear h' hk h h1 h0
      go_enter Try.func31, Try.ntmps31
      go_wp2
      go_ret
      rw [HE.out]; exact ⟨rfl, H.out⟩
    · have HE := Lib.hid (show s.took1 c (f != l) = (false, s) by simp [SS.took1, h1, h0, h2])
      have H := Lib.hid (And.intro h' hk)
      have t0 : (c == 210) = false := by simpa using h0
      have t2 : (c == 0) = false := by simpa using h2
      clear h' hk h h1 h0 h2
      go_enter Try.func31, Try.ntmps31
      go_wp2
      go_ret
      rw [HE.out]; exact ⟨rfl, H.out⟩

set_option maxHeartbeats 400000 in
theorem tookOn_any (p : Nat) (s : SS) (c : Int) (A : Option Addr) (n m : Nat) (t : Bool) (v f l : Int) (w : World) (h : isS w p s) (h1 : s.ph = 3) (hok : s.ok) :
    Calls Try.prog 32 #[.pointer (some ⟨p, 0, none⟩), .agg (gotV c A n m t v f l)] w (sPost p (s.took1 c (f != l)).2 (.bool (s.took1 c (f != l)).1) w) := by
  have hc0 : w.cell? ⟨p, 0, none⟩ = some (.int .i64 s.ph) := h.cell 0
  have hc4 : w.cell? ⟨p, 4, none⟩ = some (.int .i64 s.seen) := h.cell 4
  have hc5 : w.cell? ⟨p, 5, none⟩ = some (.int .i64 s.sealed) := h.cell 5
  have hf0 := h.free 0
  have hf4 := h.free 4
  have hf5 := h.free 5
  have n0 := hok.n0
  have n1 := hok.n1
  have m0 := hok.m0
  have m1 := hok.m1
  have h' : isS (w.alloc (.cells (gotV c A n m t v f l) 36)) p s := h.keep ((keepBut.refl [] w).alloc _) (by simp)
  have hk := (keepBut.refl [p] w).alloc (.cells (gotV c A n m t v f l) 36)
  have hne1 : w.heap.size ≠ p := Nat.ne_of_gt (rowAt.lt h)
  have hne2 : p ≠ w.heap.size := Nat.ne_of_lt (rowAt.lt h)
  unfold gotV at h' hk ⊢
  have gc0 : (w.alloc (.cells #[.int .i64 c, .slice A n m, .bool t, .int .i64 v, .int .i64 f, .int .i64 l] 36)).cell? ⟨p, 0, none⟩ = some (.int .i64 s.ph) := h'.cell 0
  have gf0 : (w.alloc (.cells #[.int .i64 c, .slice A n m, .bool t, .int .i64 v, .int .i64 f, .int .i64 l] 36)).frozen? ⟨p, 0, none⟩ = false := h'.free 0
  have gc4 : (w.alloc (.cells #[.int .i64 c, .slice A n m, .bool t, .int .i64 v, .int .i64 f, .int .i64 l] 36)).cell? ⟨p, 4, none⟩ = some (.int .i64 s.seen) := h'.cell 4
  have gf4 : (w.alloc (.cells #[.int .i64 c, .slice A n m, .bool t, .int .i64 v, .int .i64 f, .int .i64 l] 36)).frozen? ⟨p, 4, none⟩ = false := h'.free 4
  have gc5 : (w.alloc (.cells #[.int .i64 c, .slice A n m, .bool t, .int .i64 v, .int .i64 f, .int .i64 l] 36)).cell? ⟨p, 5, none⟩ = some (.int .i64 s.sealed) := h'.cell 5
  have gf5 : (w.alloc (.cells #[.int .i64 c, .slice A n m, .bool t, .int .i64 v, .int .i64 f, .int .i64 l] 36)).frozen? ⟨p, 5, none⟩ = false := h'.free 5
  clear hc0 hf0 hc4 hc5 hf4 hf5
  by_cases h0 : c = 0
  · subst h0
    by_cases hd : f = l
    · have HE := Lib.hid (show s.took1 0 (f != l) = (true, { s with seen := s.seen + 1 }) by simp [SS.took1, h1, hd])
      have td : (f == l) = true := by simpa using hd
      have td' : (f != l) = false := by simpa using hd
      have e1 : isS ((w.alloc (.cells #[.int .i64 0, .slice A n m, .bool t, .int .i64 v, .int .i64 f, .int .i64 l] 36)).setCell ⟨p, 4, none⟩ (.int .i64 (s.seen + 1))) p { s with seen := s.seen + 1 } := by
        have := rowAt.set h' 4 (.int .i64 (s.seen + 1))
        simpa [isS] using this
      have e2 := hk.setCell ⟨p, 4, none⟩ (.int .i64 (s.seen + 1)) (by simp)
      have H := Lib.hid (And.intro e1 e2)
      have HD := Lib.hid hd
      clear h' hk h h1 e1 e2 hd hok
      go_enter Try.func32, Try.ntmps32
      go_wp2
      go_ret
      first | rw [HE.out] | rw [HE2.out]
      exact ⟨rfl, H.out⟩
    · have HE := Lib.hid (show s.took1 0 (f != l) = (true, { s with seen := s.seen + 1, sealed := s.sealed + 1 }) by simp [SS.took1, h1, hd])
      have td : (f == l) = false := by simpa using hd
      have td' : (f != l) = true := by simpa using hd
      have e1 : isS (((w.alloc (.cells #[.int .i64 0, .slice A n m, .bool t, .int .i64 v, .int .i64 f, .int .i64 l] 36)).setCell ⟨p, 4, none⟩ (.int .i64 (s.seen + 1))).setCell ⟨p, 5, none⟩ (.int .i64 (s.sealed + 1))) p { s with seen := s.seen + 1, sealed := s.sealed + 1 } := by
        have := (rowAt.set h' 4 (.int .i64 (s.seen + 1))).set 5 (.int .i64 (s.sealed + 1))
        simpa [isS] using this
      have e2 := (hk.setCell ⟨p, 4, none⟩ (.int .i64 (s.seen + 1)) (by simp)).setCell ⟨p, 5, none⟩ (.int .i64 (s.sealed + 1)) (by simp)
      have H := Lib.hid (And.intro e1 e2)
      clear h' hk h h1 e1 e2 hd hok
      go_enter Try.func32, Try.ntmps32
      go_wp2
      go_ret
      first | rw [HE.out] | rw [HE2.out]
      exact ⟨rfl, H.out⟩
  · by_cases h2 : c = 210
    · subst h2
      have HE := Lib.hid (show s.took1 210 (f != l) = (true, { s with ph := 4 }) by simp [SS.took1, h1])
      have e1 : isS ((w.alloc (.cells #[.int .i64 210, .slice A n m, .bool t, .int .i64 v, .int .i64 f, .int .i64 l] 36)).setCell ⟨p, 0, none⟩ (.int .i64 4)) p { s with ph := 4 } := by
        have := rowAt.set h' 0 (.int .i64 4)
        simpa [isS] using this
      have e2 := hk.setCell ⟨p, 0, none⟩ (.int .i64 4) (by simp)
      have H := Lib.hid (And.intro e1 e2)
      clear h' hk h h1 e1 e2 h0 hok
      go_enter Try.func32, Try.ntmps32
      go_wp2
      go_ret
      rw [HE.out]; exact ⟨rfl, H.out⟩
    · have HE := Lib.hid (show s.took1 c (f != l) = (false, s) by simp [SS.took1, h1, h0, h2])
      have H := Lib.hid (And.intro h' hk)
      have t0 : (c == 0) = false := by simpa using h0
      have t2 : (c == 210) = false := by simpa using h2
      clear h' hk h h1 h0 h2 hok
      go_enter Try.func32, Try.ntmps32
      go_wp2
      go_ret
      rw [HE.out]; exact ⟨rfl, H.out⟩
end Go.Proofs.Ytoejfgjdmcamaaa
