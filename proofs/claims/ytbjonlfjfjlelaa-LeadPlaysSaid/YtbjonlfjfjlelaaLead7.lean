/-
  LEAD, 9: Yes.
-/
import Derived.Test.YtbjonlfjfjlelaaLead6
namespace Go.Proofs.Ytbjonlfjfjlelaa
open Go.RowKit
set_option linter.unusedVariables false
set_option maxRecDepth 100000

theorem isL.c11 {w : World} {p : Nat} {F : List Nat} {s : LS} (h : isL w p F s) : w.cell? ⟨p, 11, none⟩ = some (.int .u8 (s.acc : Int)) ∧ w.frozen? ⟨p, 11, none⟩ = false := by
  obtain ⟨_, _, _, _, r, _⟩ := h; exact ⟨r.cell 11, r.free 11⟩
theorem isL.c4 {w : World} {p : Nat} {F : List Nat} {s : LS} (h : isL w p F s) : w.cell? ⟨p, 4, none⟩ = some (.int .i64 s.frm) ∧ w.frozen? ⟨p, 4, none⟩ = false := by
  obtain ⟨_, _, _, _, r, _⟩ := h; exact ⟨r.cell 4, r.free 4⟩

set_option maxHeartbeats 1000000 in
theorem yes_no (p : Nat) (F : List Nat) (s : LS) (who ballot num : Int) (w : World) (h : isL w p F s) (hw : who < 0 ∨ 3 ≤ who) :
    Calls Try.prog 46 #[.pointer (some ⟨p, 0, none⟩), .int .i64 who, .int .i64 ballot, .int .i64 num] w fun e w' => e = .returned (.tuple #[.bool false, .int .i64 9]) ∧ w = w' := by
  go_enter Try.func46, Try.ntmps46
  go_wp2_with (first | (go_at_call 72; refine (noneL_any _ _ _ _ h).mono ?_; rintro e w' ⟨rfl, rfl⟩) | (go_at_call 63; refine (isMaster_no who _ hw).mono ?_; rintro e w' ⟨rfl, rfl⟩))
  go_ret2
  exact ⟨rfl, rfl⟩
set_option maxHeartbeats 2000000 in
theorem yes_state (p : Nat) (F : List Nat) (s : LS) (who ballot num : Int) (w : World) (h : isL w p F s) (hw : 0 ≤ who) (hw2 : who < 3) (hst : s.ph ≠ 2 ∨ ballot ≠ s.bal ∨ s.pend = false ∨ num ≠ s.prop.num) :
    Calls Try.prog 46 #[.pointer (some ⟨p, 0, none⟩), .int .i64 who, .int .i64 ballot, .int .i64 num] w fun e w' => e = .returned (.tuple #[.bool false, .int .i64 170]) ∧ w = w' := by
  obtain ⟨g, cv, ents, C, h1, h2⟩ := id h
  have c2 : w.cell? ⟨p, 2, none⟩ = some (.int .i64 s.ph) := h1.cell 2
  have c3 : w.cell? ⟨p, 3, none⟩ = some (.int .i64 s.bal) := h1.cell 3
  have c7 : w.cell? ⟨p, 7, none⟩ = some (.bool s.pend) := h1.cell 7
  have c8 : w.cell? ⟨p, 8, none⟩ = some (.int .i64 s.prop.num) := h1.cell 8
  clear h1 h2
  have hcs : s.ph ≠ 2 ∨ (s.ph = 2 ∧ ballot ≠ s.bal) ∨ (s.ph = 2 ∧ ballot = s.bal ∧ s.pend = false) ∨ (s.ph = 2 ∧ ballot = s.bal ∧ s.pend = true ∧ num ≠ s.prop.num) := by
    by_cases h1 : s.ph = 2
    · by_cases h2 : ballot = s.bal
      · cases h3 : s.pend with
        | false => exact .inr (.inr (.inl ⟨h1, h2, rfl⟩))
        | true => exact .inr (.inr (.inr ⟨h1, h2, rfl, by rcases hst with h | h | h | h; exact absurd h1 h; exact absurd h2 h; rw [h3] at h; cases h; exact h⟩))
      · exact .inr (.inl ⟨h1, h2⟩)
    · exact .inl h1
  clear hst
  rcases hcs with a1 | ⟨a1, a2⟩ | ⟨a1, rfl, a3⟩ | ⟨a1, rfl, a3, a4⟩
  · have t1 : (s.ph == 2) = false := by simpa using a1
    have t2 : (s.ph != 2) = true := by simpa using a1
    clear a1
    go_enter Try.func46, Try.ntmps46
    go_wp2_with (first | (go_at_call 72; refine (noneL_any _ _ _ _ h).mono ?_; rintro e w' ⟨rfl, rfl⟩) | (go_at_call 63; refine (isMaster_yes who _ hw hw2).mono ?_; rintro e w' ⟨rfl, rfl⟩))
    go_ret2
    exact ⟨rfl, rfl⟩
  · have t1 : (ballot == s.bal) = false := by simpa using a2
    have t2 : (ballot != s.bal) = true := by simpa using a2
    rw [a1] at c2
    clear a1 a2
    go_enter Try.func46, Try.ntmps46
    go_wp2_with (first | (go_at_call 72; refine (noneL_any _ _ _ _ h).mono ?_; rintro e w' ⟨rfl, rfl⟩) | (go_at_call 63; refine (isMaster_yes who _ hw hw2).mono ?_; rintro e w' ⟨rfl, rfl⟩))
    go_ret2
    exact ⟨rfl, rfl⟩
  · rw [a1] at c2
    rw [a3] at c7
    clear a1 a3
    go_enter Try.func46, Try.ntmps46
    go_wp2_with (first | (go_at_call 72; refine (noneL_any _ _ _ _ h).mono ?_; rintro e w' ⟨rfl, rfl⟩) | (go_at_call 63; refine (isMaster_yes who _ hw hw2).mono ?_; rintro e w' ⟨rfl, rfl⟩))
    go_ret2
    exact ⟨rfl, rfl⟩
  · have t1 : (num == s.prop.num) = false := by simpa using a4
    have t2 : (num != s.prop.num) = true := by simpa using a4
    rw [a1] at c2
    rw [a3] at c7
    clear a1 a3 a4
    go_enter Try.func46, Try.ntmps46
    go_wp2_with (first | (go_at_call 72; refine (noneL_any _ _ _ _ h).mono ?_; rintro e w' ⟨rfl, rfl⟩) | (go_at_call 63; refine (isMaster_yes who _ hw hw2).mono ?_; rintro e w' ⟨rfl, rfl⟩))
    go_ret2
    exact ⟨rfl, rfl⟩

def LS.yes (s : LS) (who : Nat) : Bool × LS :=
  if countOf (orB s.acc who) < 2 then (false, { s with acc := orB s.acc who }) else (true, { s.withdraw with frm := wrap64 (s.prop.num + 1) })

set_option maxHeartbeats 2000000 in
theorem yes_yes (p : Nat) (F : List Nat) (s : LS) (who : Nat) (w : World) (h : isL w p F s) (hok : s.ok) (hw : who < 3) (hph : s.ph = 2) (hpe : s.pend = true) :
    Calls Try.prog 46 #[.pointer (some ⟨p, 0, none⟩), .int .i64 (who : Int), .int .i64 s.bal, .int .i64 s.prop.num] w
      (wPost p F (s.yes who).2 (.tuple #[.bool (s.yes who).1, .int .i64 0]) w) := by
  obtain ⟨g, cv, ents, C, h1, h2⟩ := id h
  have c2 : w.cell? ⟨p, 2, none⟩ = some (.int .i64 s.ph) := h1.cell 2
  have c3 : w.cell? ⟨p, 3, none⟩ = some (.int .i64 s.bal) := h1.cell 3
  have c7 : w.cell? ⟨p, 7, none⟩ = some (.bool s.pend) := h1.cell 7
  have c8 : w.cell? ⟨p, 8, none⟩ = some (.int .i64 s.prop.num) := h1.cell 8
  have c11 := h.c11.1
  have f11 := h.c11.2
  rw [hph] at c2
  rw [hpe] at c7
  have HA := Lib.hid (add_any p 11 s.acc who hok.a7 hw w c11 f11)
  have hb7 : orB s.acc who ≤ 7 := orB_le _ hok.a7 _ hw
  have k1 := ((keepBut.refl [p] w).setCell ⟨p, 11, none⟩ (.int .u8 (orB s.acc who : Int)) (by simp)).drew
  have i1 : isL (w.setCell ⟨p, 11, none⟩ (.int .u8 (orB s.acc who : Int))).drew p F { s with acc := orB s.acc who } := h.poke k1 rfl (fun g cv hr => ⟨cv, by
    have := hr.set 11 (.int .u8 (orB s.acc who : Int))
    show rowAt (w.setCell ⟨p, 11, none⟩ (.int .u8 (orB s.acc who : Int))) p _ _
    simpa [rowL] using this, .inl ⟨rfl, rfl⟩⟩)
  have H1 := Lib.hid (And.intro i1 (And.intro k1 hb7))
  have hw0 : (0 : Int) ≤ (who : Int) := by omega
  have hw3 : (who : Int) < 3 := by omega
  have HH := Lib.hid h
  clear h1 h2 k1 i1 hb7 hph hpe hok h
  go_enter Try.func46, Try.ntmps46
  go_upto_region 8 with (first | (go_at_call 72; refine (noneL_any _ _ _ _ HH.out).mono ?_; rintro e w' ⟨rfl, rfl⟩) | (go_at_call 63; refine (isMaster_yes _ _ hw0 hw3).mono ?_; rintro e w' ⟨rfl, rfl⟩) | (go_at_call 76; refine HA.out.mono ?_; rintro e w' ⟨rfl, rfl⟩))
  obtain ⟨i1, k1, hb7⟩ := H1.out
  clear c2 c3 c7 c8 c11 f11 HA H1
  generalize (w.setCell ⟨p, 11, none⟩ (.int .u8 (orB s.acc who : Int))).drew = w1 at *
  have HC := Lib.hid (count_any p 11 _ hb7 w1 i1.c11.1)
  have HI := Lib.hid (And.intro i1 k1)
  clear i1 k1 hb7
  go_wp2_with fail
  refine HC.out.mono ?_; rintro e w2 ⟨rfl, k2⟩
  have i2 := HI.out.1.over k2
  have HI2 := Lib.hid (And.intro i2 (HI.out.2.then k2 (by simp)))
  clear i2 k2
  have hcnt : countOf (orB s.acc who) < 2 ∨ ¬ countOf (orB s.acc who) < 2 := by omega
  rcases hcnt with hc | hc
  · have hc' : (countOf (orB s.acc who) : Int) < 2 := by omega
    have HE := Lib.hid (show s.yes who = (false, { s with acc := orB s.acc who }) by unfold LS.yes; rw [if_pos hc])
    clear hc
    go_wp2
    go_ret2
    rw [HE.out]
    exact ⟨rfl, HI2.out⟩
  · have hc' : ¬ (countOf (orB s.acc who) : Int) < 2 := by omega
    have HE := Lib.hid (show s.yes who = (true, { s.withdraw with frm := wrap64 (s.prop.num + 1) }) by unfold LS.yes; rw [if_neg hc])
    clear hc
    go_wp2_with fail
    refine (withdraw_any _ _ _ _ HI2.out.1).mono ?_; rintro e w3 ⟨rfl, i3, k3⟩
    have c4 := i3.c4.1
    have f4 := i3.c4.2
    have k4 := (keepBut.refl [p] w3).setCell ⟨p, 4, none⟩ (.int .i64 (wrap64 (s.prop.num + 1))) (by simp)
    have i4 : isL (w3.setCell ⟨p, 4, none⟩ (.int .i64 (wrap64 (s.prop.num + 1)))) p F { s.withdraw with frm := wrap64 (s.prop.num + 1) } := i3.poke k4 rfl (fun g cv hr => ⟨cv, by
      have := hr.set 4 (.int .i64 (wrap64 (s.prop.num + 1)))
      simpa [rowL, LS.withdraw] using this, .inl ⟨rfl, rfl⟩⟩)
    have H4 := Lib.hid (And.intro i4 ((HI2.out.2.then k3 (by simp)).then k4 (by simp)))
    clear i3 i4 k3 k4
    go_wp2
    go_ret2
    rw [HE.out]
    exact ⟨rfl, H4.out⟩
end Go.Proofs.Ytbjonlfjfjlelaa
