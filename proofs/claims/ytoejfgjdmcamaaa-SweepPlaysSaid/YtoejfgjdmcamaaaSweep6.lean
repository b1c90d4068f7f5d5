/-
  SWEEP, 6: the statements' next and took.
-/
import Derived.Test.YtoejfgjdmcamaaaSweep5
import Derived.Test.YtoejfgjdmcamaaaSweep4
namespace Go.Proofs.Ytoejfgjdmcamaaa
open Go.RowKit
set_option linter.unusedVariables false
set_option maxRecDepth 100000

set_option maxHeartbeats 1000000 in
theorem lawnext_any (p : Nat) (s s' : SS) (k e0 : Int) (w : World) (h : isS w p s) (hok : s.ok) (hn : s.next = (k, e0, s')) :
    Calls Try.prog 19 #[.pointer (some ⟨p, 0, none⟩), .int .i64 k, .int .i64 e0] w (sPost p s' (.bool true) w) := by
  have hc := next_any p s w h hok
  rw [hn] at hc
  unfold deedV at hc
  have HC := Lib.hid hc
  clear hc hn h hok
  go_enter Try.func19, Try.ntmps19
  go_wp2_with (go_at_call 8; refine HC.out.mono ?_; rintro e w1 ⟨rfl, a1, a2⟩; have HA := Lib.hid (And.intro a1 a2); clear a1 a2)
  go_ret
  exact ⟨rfl, HA.out.1.keep ((keepBut.refl [] w1).alloc _) (by simp), HA.out.2.then ((keepBut.refl [] w1).alloc _) (by simp)⟩

def SS.after (s : SS) (c : Int) (dif : Bool) : SS := SS.res { s with waits := true } c dif

theorem SS.next_yes {s : SS} (hw : s.waits = false) (hp : s.ph ≤ 3) : s.next = (s.deed, 0, { s with waits := true }) := by
  have : s.ended = false := by simp [SS.ended]; omega
  simp [SS.next, hw, this]
theorem SS.next_no {s : SS} (hp : 4 ≤ s.ph) : s.next = (0, 170, s) := by
  have : s.ended = true := by simp [SS.ended]; omega
  simp [SS.next, this]

theorem res_waits (s : SS) (c : Int) (dif : Bool) : (s.res c dif).waits = false := by
  unfold SS.res
  split
  · split <;> rfl
  · split
    · unfold SS.took1 SS.goOn; repeat (first | rfl | split)
    · unfold SS.took1 SS.fail SS.goOn; repeat (first | rfl | split)

set_option maxHeartbeats 2000000 in
theorem lawtook_any (p : Nat) (s : SS) (c : Int) (A : Option Addr) (n m : Nat) (t : Bool) (v f l k : Int) (w : World) (h : isS w p s) (hok : s.ok) (hw : s.waits = false) (hp : s.ph ≤ 3) (hk : s.deed = k) (hok2 : (s.after c (f != l)).ok) :
    Calls Try.prog 15 #[.pointer (some ⟨p, 0, none⟩), .int .i64 k, .agg (gotV c A n m t v f l)] w (sPost p (s.after c (f != l)) (.bool true) w) := by
  have hn := SS.next_yes hw hp
  rw [hk] at hn
  have HN := Lib.hid hn
  have h' : isS (w.alloc (.cells (gotV c A n m t v f l) 36)) p s := h.keep ((keepBut.refl [] w).alloc _) (by simp)
  have hr := rowAt.new w 36 (gotV c A n m t v f l)
  have hkk := (keepBut.refl [p] w).alloc (.cells (gotV c A n m t v f l) 36)
  have hne1 : w.heap.size ≠ p := Nat.ne_of_gt (rowAt.lt h)
  have TA := fun w (h : isS w p { s with waits := true }) => took_any p { s with waits := true } c A n m t v f l w h (hok.tell hp) rfl
  have HTA := Lib.hid TA
  have HRW := Lib.hid (res_waits { s with waits := true } c (f != l))
  have HO := Lib.hid (And.intro hok hok2)
  clear hn h hok hok2 TA
  unfold gotV at h' hkk hr HTA ⊢
  have H := Lib.hid (And.intro h' (And.intro hr hkk))
  have HNE := Lib.hid hne1
  clear h' hr hkk hw hp hk hne1
  go_enter Try.func15, Try.ntmps15
  go_wp2_with fail
  refine (lawnext_any p s _ k 0 _ H.out.1 HO.out.1 HN.out).mono ?_; rintro e w1 ⟨rfl, a1, a2⟩
  have r1 := a2.row H.out.2.1 (by simpa using HNE.out)
  have b0 : w1.cell? ⟨w.heap.size, 0, none⟩ = some (.int .i64 c) := r1.cell 0
  have b1 : w1.cell? ⟨w.heap.size, 1, none⟩ = some (.slice A n m) := r1.cell 1
  have b2 : w1.cell? ⟨w.heap.size, 2, none⟩ = some (.bool t) := r1.cell 2
  have b3 : w1.cell? ⟨w.heap.size, 3, none⟩ = some (.int .i64 v) := r1.cell 3
  have b4 : w1.cell? ⟨w.heap.size, 4, none⟩ = some (.int .i64 f) := r1.cell 4
  have b5 : w1.cell? ⟨w.heap.size, 5, none⟩ = some (.int .i64 l) := r1.cell 5
  have HA := Lib.hid (And.intro a1 a2)
  clear a1 a2 r1
  go_wp2_with fail
  refine (waits_any p _ _ HA.out.1 HO.out.1.p1).mono ?_; rintro e w2 ⟨rfl, rfl⟩
  go_wp2_with fail
  refine (HTA.out _ HA.out.1).mono ?_; rintro e w2 ⟨rfl, a1, a2⟩
  have HB := Lib.hid (And.intro a1 a2)
  clear a1 a2
  go_wp2_with fail
  refine (waits_any p _ _ HB.out.1 HO.out.2.p1).mono ?_; rintro e w3 ⟨rfl, rfl⟩
  rw [HRW.out]
  go_wp2_with fail
  go_ret
  exact ⟨rfl, HB.out.1, (H.out.2.2.then HA.out.2 (by simp)).then HB.out.2 (by simp)⟩
end Go.Proofs.Ytoejfgjdmcamaaa
