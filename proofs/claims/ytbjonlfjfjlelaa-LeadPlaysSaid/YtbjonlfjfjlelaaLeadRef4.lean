/-
  LEAD: the document's own leader: Promise, Yes, No.
-/
import Derived.Test.YtbjonlfjfjlelaaLeadRef3
namespace Go.Proofs.Ytbjonlfjfjlelaa
open Go.RowKit
set_option linter.unusedVariables false
set_option maxRecDepth 100000

theorem orB_bit : ∀ n : Nat, n < 3 → ∀ b : Nat, b ≤ 7 → ∀ k : Nat, k < 3 → bitB (orB b n) k = (if k = n then true else bitB b k) := by decide
theorem rowM_prom (s : LS) (vb cv : Value) (x n : Nat) (hn : n < 3) (hp : s.prom ≤ 7) : (rowM s vb cv x).setIfInBounds (4 + n) (.bool true) = rowM { s with prom := orB s.prom n } vb cv x := by
  have e := orB_bit n hn s.prom hp
  have e0 := e 0 (by omega)
  have e1 := e 1 (by omega)
  have e2 := e 2 (by omega)
  have hn' : n = 0 ∨ n = 1 ∨ n = 2 := by omega
  rcases hn' with rfl | rfl | rfl
  all_goals
    simp at e0 e1 e2
    simp [rowM, e0, e1, e2]
theorem rowM_acc (s : LS) (vb cv : Value) (n : Nat) (hn : n < 3) (hp : s.acc ≤ 7) : (rowM s vb cv s.acc).setIfInBounds (12 + n) (.bool true) = rowM { s with acc := orB s.acc n } vb cv (orB s.acc n) := by
  have e := orB_bit n hn s.acc hp
  have e0 := e 0 (by omega)
  have e1 := e 1 (by omega)
  have e2 := e 2 (by omega)
  have hn' : n = 0 ∨ n = 1 ∨ n = 2 := by omega
  rcases hn' with rfl | rfl | rfl
  all_goals
    simp at e0 e1 e2
    simp [rowM, e0, e1, e2]
theorem isM.c3 {w : World} {q : Nat} {G : List Nat} {s : LS} (h : isM w q G s) : w.cell? ⟨q, 3, none⟩ = some (.int .i64 s.ph) ∧ w.frozen? ⟨q, 3, none⟩ = false := by
  obtain ⟨vb, cv, T, C, x, h⟩ := h; exact ⟨h.row.cell 3, h.row.free 3⟩
theorem isM.c1 {w : World} {q : Nat} {G : List Nat} {s : LS} (h : isM w q G s) : w.cell? ⟨q, 1, none⟩ = some (.int .i64 s.bal) := by
  obtain ⟨vb, cv, T, C, x, h⟩ := h; exact h.row.cell 1
theorem isM.c2 {w : World} {q : Nat} {G : List Nat} {s : LS} (h : isM w q G s) : w.cell? ⟨q, 2, none⟩ = some (.int .i64 s.frm) := by
  obtain ⟨vb, cv, T, C, x, h⟩ := h; exact h.row.cell 2
theorem isM.c8 {w : World} {q : Nat} {G : List Nat} {s : LS} (h : isM w q G s) : w.cell? ⟨q, 8, none⟩ = some (.bool s.pend) ∧ w.cell? ⟨q, 9, none⟩ = some (.int .i64 s.prop.num) := by
  obtain ⟨vb, cv, T, C, x, h⟩ := h; exact ⟨h.row.cell 8, h.row.cell 9⟩
theorem isM.c4 {w : World} {q : Nat} {G : List Nat} {s : LS} (h : isM w q G s) : w.cell? ⟨q, 4, none⟩ = some (.bool (bitB s.prom 0)) ∧ w.cell? ⟨q, 5, none⟩ = some (.bool (bitB s.prom 1)) ∧ w.cell? ⟨q, 6, none⟩ = some (.bool (bitB s.prom 2)) ∧ (∀ k, w.frozen? ⟨q, k, none⟩ = false) := by
  obtain ⟨vb, cv, T, C, x, h⟩ := h; exact ⟨h.row.cell 4, h.row.cell 5, h.row.cell 6, h.row.free⟩
theorem isM.prom {w : World} {q n : Nat} {G : List Nat} {s : LS} (h : isM w q G s) (hn : n < 3) (hp : s.prom ≤ 7) :
    isM (w.setCell ⟨q, 4 + n, none⟩ (.bool true)) q G { s with prom := orB s.prom n } ∧ keepBut [q] w (w.setCell ⟨q, 4 + n, none⟩ (.bool true)) ∧ ∃ b, w.cell? ⟨q, 4 + n, none⟩ = some (.bool b) := by
  obtain ⟨vb, cv, T, C, x, h⟩ := h
  have k := (keepBut.refl [q] w).setCell ⟨q, 4 + n, none⟩ (.bool true) (by simp)
  have r := h.row.set (4 + n) (.bool true)
  rw [rowM_prom s vb cv x n hn hp] at r
  refine ⟨⟨vb, cv, T, C, x, h.poke k r rfl h.acc h.xle (.inl ⟨rfl, rfl⟩)⟩, k, ?_⟩
  rw [h.row.cell]
  have hn' : n = 0 ∨ n = 1 ∨ n = 2 := by omega
  rcases hn' with rfl | rfl | rfl <;> exact ⟨_, rfl⟩
theorem isM.accd {w : World} {q n : Nat} {G : List Nat} {s : LS} (h : isM w q G s) (hn : n < 3) (hp : s.acc ≤ 7) (hpe : s.pend = true) :
    isM (w.setCell ⟨q, 12 + n, none⟩ (.bool true)) q G { s with acc := orB s.acc n } ∧ keepBut [q] w (w.setCell ⟨q, 12 + n, none⟩ (.bool true)) ∧ ∃ b, w.cell? ⟨q, 12 + n, none⟩ = some (.bool b) := by
  obtain ⟨vb, cv, T, C, x, h⟩ := h
  obtain rfl := h.acc hpe
  have k := (keepBut.refl [q] w).setCell ⟨q, 12 + n, none⟩ (.bool true) (by simp)
  have r := h.row.set (12 + n) (.bool true)
  rw [rowM_acc s vb cv n hn hp] at r
  refine ⟨⟨vb, cv, T, C, _, h.poke k r rfl (fun _ => rfl) (orB_le _ hp _ hn) (.inl ⟨rfl, rfl⟩)⟩, k, ?_⟩
  rw [h.row.cell]
  have hn' : n = 0 ∨ n = 1 ∨ n = 2 := by omega
  rcases hn' with rfl | rfl | rfl <;> exact ⟨_, rfl⟩
theorem isM.c12 {w : World} {q : Nat} {G : List Nat} {s : LS} (h : isM w q G s) (hpe : s.pend = true) : w.cell? ⟨q, 12, none⟩ = some (.bool (bitB s.acc 0)) ∧ w.cell? ⟨q, 13, none⟩ = some (.bool (bitB s.acc 1)) ∧ w.cell? ⟨q, 14, none⟩ = some (.bool (bitB s.acc 2)) := by
  obtain ⟨vb, cv, T, C, x, h⟩ := h
  obtain rfl := h.acc hpe
  exact ⟨h.row.cell 12, h.row.cell 13, h.row.cell 14⟩
theorem isM.setPh {w : World} {q : Nat} {G : List Nat} {s : LS} (k : Int) (h : isM w q G s) : isM (w.setCell ⟨q, 3, none⟩ (.int .i64 k)) q G { s with ph := k } ∧ keepBut [q] w (w.setCell ⟨q, 3, none⟩ (.int .i64 k)) := by
  obtain ⟨vb, cv, T, C, x, h⟩ := h
  have k1 := (keepBut.refl [q] w).setCell ⟨q, 3, none⟩ (.int .i64 k) (by simp)
  have r := h.row.set 3 (.int .i64 k)
  exact ⟨⟨vb, cv, T, C, x, h.poke k1 (by simpa [rowM] using r) rfl h.acc h.xle (.inl ⟨rfl, rfl⟩)⟩, k1⟩
theorem isM.setFrm {w : World} {q : Nat} {G : List Nat} {s : LS} (k : Int) (h : isM w q G s) : isM (w.setCell ⟨q, 2, none⟩ (.int .i64 k)) q G { s with frm := k } ∧ keepBut [q] w (w.setCell ⟨q, 2, none⟩ (.int .i64 k)) := by
  obtain ⟨vb, cv, T, C, x, h⟩ := h
  have k1 := (keepBut.refl [q] w).setCell ⟨q, 2, none⟩ (.int .i64 k) (by simp)
  have r := h.row.set 2 (.int .i64 k)
  exact ⟨⟨vb, cv, T, C, x, h.poke k1 (by simpa [rowM] using r) rfl h.acc h.xle (.inl ⟨rfl, rfl⟩)⟩, k1⟩
def wd4 (w : World) (q : Nat) : World := (((w.setCell ⟨q, 8, none⟩ (.bool false)).setCell ⟨q, 9, none⟩ (.int .i64 0)).setCell ⟨q, 10, none⟩ (.int .i64 0)).setCell ⟨q, 11, none⟩ (.slice none 0 0)
theorem isM.withdraw {w : World} {q : Nat} {G : List Nat} {s : LS} (h : isM w q G s) : isM (wd4 w q) q G s.withdraw ∧ keepBut [q] w (wd4 w q) := by
  obtain ⟨vb, cv, T, C, x, h⟩ := h
  have k1 : keepBut [q] w (wd4 w q) := ((((keepBut.refl [q] w).setCell ⟨q, 8, none⟩ (.bool false) (by simp)).setCell ⟨q, 9, none⟩ (.int .i64 0) (by simp)).setCell ⟨q, 10, none⟩ (.int .i64 0) (by simp)).setCell ⟨q, 11, none⟩ (.slice none 0 0) (by simp)
  have r := (((h.row.set 8 (.bool false)).set 9 (.int .i64 0)).set 10 (.int .i64 0)).set 11 (.slice none 0 0)
  exact ⟨⟨vb, .slice none 0 0, T, C, x, h.poke k1 (by simpa [rowM, LS.withdraw, CS.zero, wd4] using r) rfl (by simp [LS.withdraw]) h.xle (.inr ⟨rfl, rfl⟩)⟩, k1⟩
theorem isM.c11 {w : World} {q : Nat} {G : List Nat} {s : LS} (h : isM w q G s) : ∃ A n, w.cell? ⟨q, 10, none⟩ = some (.int .i64 s.prop.full) ∧ w.cell? ⟨q, 11, none⟩ = some (.slice A s.prop.chain.length n) := by
  obtain ⟨vb, cv, T, C, x, h⟩ := h
  obtain ⟨A, n, g, rfl, -⟩ := id h.pc
  exact ⟨A, n, h.row.cell 10, h.row.cell 11⟩

set_option maxHeartbeats 1000000 in
theorem noM_any (q : Nat) (G : List Nat) (s : LS) (b : Int) (w : World) (h : isM w q G s) :
    Calls Try.prog 70 #[.pointer (some ⟨q, 0, none⟩), .int .i64 b] w (mPost q G (s.no b).2 (.int .i64 (s.no b).1) w) := by
  have c1 := h.c1
  have c3 := h.c3.1
  have f3 := h.c3.2
  obtain ⟨c8, c9⟩ := h.c8
  obtain ⟨A, n, c10, c11⟩ := h.c11
  have ff := h.c4.2.2.2
  have f8 := ff 8
  have f9 := ff 9
  have f10 := ff 10
  have f11 := ff 11
  have HH := Lib.hid h
  clear h ff
  by_cases hp : s.ph = 0
  · have HE := Lib.hid (show s.no b = (170, s) by simp [LS.no, hp])
    rw [hp] at c3
    clear hp
    go_enter Try.func70, Try.ntmps70
    go_wp2
    go_ret
    rw [HE.out]
    exact mPost.same HH.out (keepBut.refl _ _)
  · have t0 : (s.ph == 0) = false := by simpa using hp
    by_cases hb : b ≤ s.bal
    · have HE := Lib.hid (show s.no b = (170, s) by simp [LS.no, hb])
      clear hp
      go_enter Try.func70, Try.ntmps70
      go_wp2
      go_ret
      rw [HE.out]
      exact mPost.same HH.out (keepBut.refl _ _)
    · have HE := Lib.hid (show s.no b = (0, { s.withdraw with ph := 0 }) by simp [LS.no, hb, hp])
      clear hp
      go_enter Try.func70, Try.ntmps70
      go_wp2
      go_ret
      rw [HE.out]
      have h1 := HH.out.setPh 0
      have h2 := h1.1.withdraw
      exact mPost.own h2.1 (h1.2.then h2.2 (by simp))

set_option maxHeartbeats 1000000 in
theorem yesM_no (q : Nat) (who ballot num : Int) (w : World) (hw : who < 0 ∨ 3 ≤ who) :
    Calls Try.prog 71 #[.pointer (some ⟨q, 0, none⟩), .int .i64 who, .int .i64 ballot, .int .i64 num] w fun e w' => e = .returned (.tuple #[.bool false, .int .i64 9]) ∧ w = w' := by
  go_enter Try.func71, Try.ntmps71
  go_wp2_with (go_at_call 64; refine (masterM_no who _ hw).mono ?_; rintro e w' ⟨rfl, rfl⟩)
  go_ret2
  exact ⟨rfl, rfl⟩
set_option maxHeartbeats 2000000 in
theorem yesM_state (q : Nat) (G : List Nat) (s : LS) (who ballot num : Int) (w : World) (h : isM w q G s) (hw : 0 ≤ who) (hw2 : who < 3) (hst : s.ph ≠ 2 ∨ ballot ≠ s.bal ∨ s.pend = false ∨ num ≠ s.prop.num) :
    Calls Try.prog 71 #[.pointer (some ⟨q, 0, none⟩), .int .i64 who, .int .i64 ballot, .int .i64 num] w fun e w' => e = .returned (.tuple #[.bool false, .int .i64 170]) ∧ w = w' := by
  have c1 := h.c1
  have c3 := h.c3.1
  obtain ⟨c8, c9⟩ := h.c8
  clear h
  have hcs : s.ph ≠ 2 ∨ (s.ph = 2 ∧ ballot ≠ s.bal) ∨ (s.ph = 2 ∧ ballot = s.bal ∧ s.pend = false) ∨ (s.ph = 2 ∧ ballot = s.bal ∧ s.pend = true ∧ num ≠ s.prop.num) := by
    by_cases h1 : s.ph = 2
    · by_cases h2 : ballot = s.bal
      · cases h3 : s.pend with
        | false => exact .inr (.inr (.inl ⟨h1, h2, rfl⟩))
        | true => exact .inr (.inr (.inr ⟨h1, h2, rfl, by rcases hst with h | h | h | h; exact absurd h1 h; exact absurd h2 h; rw [h3] at h; cases h; exact h⟩))
      · exact .inr (.inl ⟨h1, h2⟩)
    · exact .inl h1
  clear hst
  rcases hcs with a1 | ⟨a1, a2⟩ | ⟨a1, rfl, a3⟩ | ⟨a1, rfl, a3, a4⟩
  · have t1 : (s.ph == 2) = false := by simpa using a1
    have t2 : (s.ph != 2) = true := by simpa using a1
    clear a1
    go_enter Try.func71, Try.ntmps71
    go_wp2_with (go_at_call 64; refine (masterM_yes who _ hw hw2).mono ?_; rintro e w' ⟨rfl, rfl⟩)
    go_ret2
    exact ⟨rfl, rfl⟩
  · have t1 : (s.bal == ballot) = false := by simp; exact fun e => a2 e.symm
    have t2 : (s.bal != ballot) = true := by simp; exact fun e => a2 e.symm
    rw [a1] at c3
    clear a1 a2
    go_enter Try.func71, Try.ntmps71
    go_wp2_with (go_at_call 64; refine (masterM_yes who _ hw hw2).mono ?_; rintro e w' ⟨rfl, rfl⟩)
    go_ret2
    exact ⟨rfl, rfl⟩
  · rw [a1] at c3
    rw [a3] at c8
    clear a1 a3
    go_enter Try.func71, Try.ntmps71
    go_wp2_with (go_at_call 64; refine (masterM_yes who _ hw hw2).mono ?_; rintro e w' ⟨rfl, rfl⟩)
    go_ret2
    exact ⟨rfl, rfl⟩
  · have t1 : (s.prop.num == num) = false := by simp; exact fun e => a4 e.symm
    have t2 : (s.prop.num != num) = true := by simp; exact fun e => a4 e.symm
    rw [a1] at c3
    rw [a3] at c8
    clear a1 a3 a4
    go_enter Try.func71, Try.ntmps71
    go_wp2_with (go_at_call 64; refine (masterM_yes who _ hw hw2).mono ?_; rintro e w' ⟨rfl, rfl⟩)
    go_ret2
    exact ⟨rfl, rfl⟩

set_option maxHeartbeats 2000000 in
theorem yesM_yes (q : Nat) (G : List Nat) (s : LS) (who : Nat) (w : World) (h : isM w q G s) (hok : s.ok) (hw : who < 3) (hph : s.ph = 2) (hpe : s.pend = true) :
    Calls Try.prog 71 #[.pointer (some ⟨q, 0, none⟩), .int .i64 (who : Int), .int .i64 s.bal, .int .i64 s.prop.num] w
      (mPost q G (s.yes who).2 (.tuple #[.bool (s.yes who).1, .int .i64 0]) w) := by
  have c1 := h.c1
  have c3 := h.c3.1
  obtain ⟨c8, c9⟩ := h.c8
  rw [hph] at c3
  rw [hpe] at c8
  have hb7 : orB s.acc who ≤ 7 := orB_le _ hok.a7 _ hw
  obtain ⟨h1, k1, b, cw⟩ := h.accd hw hok.a7 hpe
  have fw := h.c4.2.2.2 (12 + who)
  have H1 := Lib.hid (And.intro h1 (And.intro k1 (And.intro hb7 hpe)))
  have hw0 : (0 : Int) ≤ (who : Int) := by omega
  have hw3 : (who : Int) < 3 := by omega
  clear h h1 k1 hb7 hph hpe hok
  go_enter Try.func71, Try.ntmps71
  go_upto_region 6 with (go_at_call 64; refine (masterM_yes _ _ hw0 hw3).mono ?_; rintro e w' ⟨rfl, rfl⟩)
  clear c1 c3 c8 c9 cw fw
  generalize w.setCell ⟨q, 12 + who, none⟩ (.bool true) = w1 at *
  obtain ⟨d12, d13, d14⟩ := H1.out.1.c12 H1.out.2.2.2
  have HC := Lib.hid (manyM_any (orB s.acc who) H1.out.2.2.1 w1)
  unfold bitsV at HC
  go_wp2_with fail
  refine HC.out.mono ?_; rintro e w2 ⟨rfl, k2⟩
  have HI2 := Lib.hid (And.intro (H1.out.1.over k2) (H1.out.2.1.then k2 (by simp)))
  clear k2 d12 d13 d14
  have hcnt : countOf (orB s.acc who) < 2 ∨ ¬ countOf (orB s.acc who) < 2 := by omega
  rcases hcnt with hc | hc
  · have hc' : (countOf (orB s.acc who) : Int) < 2 := by omega
    have HE := Lib.hid (show s.yes who = (false, { s with acc := orB s.acc who }) by unfold LS.yes; rw [if_pos hc])
    clear hc
    go_wp2
    go_ret2
    rw [HE.out]
    exact mPost.own HI2.out.1 HI2.out.2
  · have hc' : ¬ (countOf (orB s.acc who) : Int) < 2 := by omega
    have HE := Lib.hid (show s.yes who = (true, { s.withdraw with frm := wrap64 (s.prop.num + 1) }) by unfold LS.yes; rw [if_neg hc])
    obtain ⟨d8, d9⟩ := HI2.out.1.c8
    obtain ⟨A, n, d10, d11⟩ := HI2.out.1.c11
    have d2 := HI2.out.1.c2
    have ff := HI2.out.1.c4.2.2.2
    have f2 := ff 2
    have f8 := ff 8
    have f9 := ff 9
    have f10 := ff 10
    have f11 := ff 11
    clear hc ff
    go_wp2
    go_ret2
    rw [HE.out]
    have h3 := HI2.out.1.withdraw
    have h4 := h3.1.setFrm (wrap64 (s.prop.num + 1))
    exact mPost.own h4.1 ((HI2.out.2.then h3.2 (by simp)).then h4.2 (by simp))

set_option maxHeartbeats 2000000 in
theorem promiseM_no (q : Nat) (who ballot : Int) (A : Option Addr) (n c : Nat) (w : World) (hw : who < 0 ∨ 3 ≤ who) :
    Calls Try.prog 68 #[.pointer (some ⟨q, 0, none⟩), .int .i64 who, .int .i64 ballot, .slice A n c] w fun e w' => e = .returned (.tuple #[.bool false, .int .i64 9]) ∧ w = w' := by
  go_enter Try.func68, Try.ntmps68
  go_wp2_with (go_at_call 64; refine (masterM_no who _ hw).mono ?_; rintro e w' ⟨rfl, rfl⟩)
  go_ret2
  exact ⟨rfl, rfl⟩
set_option maxHeartbeats 2000000 in
theorem promiseM_state (q : Nat) (G : List Nat) (s : LS) (who ballot : Int) (A : Option Addr) (n c : Nat) (w : World) (h : isM w q G s) (hw : 0 ≤ who) (hw2 : who < 3) (hst : s.ph ≠ 1 ∨ ballot ≠ s.bal) :
    Calls Try.prog 68 #[.pointer (some ⟨q, 0, none⟩), .int .i64 who, .int .i64 ballot, .slice A n c] w fun e w' => e = .returned (.tuple #[.bool false, .int .i64 170]) ∧ w = w' := by
  have c1 := h.c1
  have c3 := h.c3.1
  clear h
  by_cases hp : s.ph = 1
  · have hb : ballot ≠ s.bal := by rcases hst with h | h; exact absurd hp h; exact h
    have t1 : (s.bal == ballot) = false := by simp; exact fun e => hb e.symm
    have t2 : (s.bal != ballot) = true := by simp; exact fun e => hb e.symm
    rw [hp] at c3
    clear hp hb hst
    go_enter Try.func68, Try.ntmps68
    go_wp2_with (go_at_call 64; refine (masterM_yes who _ hw hw2).mono ?_; rintro e w' ⟨rfl, rfl⟩)
    go_ret2
    exact ⟨rfl, rfl⟩
  · have t1 : (s.ph == 1) = false := by simpa using hp
    have t2 : (s.ph != 1) = true := by simpa using hp
    clear hp hst
    go_enter Try.func68, Try.ntmps68
    go_wp2_with (go_at_call 64; refine (masterM_yes who _ hw hw2).mono ?_; rintro e w' ⟨rfl, rfl⟩)
    go_ret2
    exact ⟨rfl, rfl⟩

theorem putV_len (k : Int) (v : VS) : ∀ b : List (Int × VS), (putV b k v).length ≤ b.length + 1
  | [] => by simp [putV]
  | p :: r => by
    unfold putV
    split
    · simp
    · have := putV_len k v r; simp; omega
theorem bind_len (s : LS) (v : VS) : (s.bind v).bound.length ≤ s.bound.length + 1 := by
  have h := putV_len v.c.num v s.bound
  unfold LS.bind
  split
  · omega
  · split
    · split
      · omega
      · exact h
    · exact h
theorem binds_len (l : List VS) : ∀ s : LS, (s.binds l).bound.length ≤ s.bound.length + l.length := by
  induction l with
  | nil => intro s; simp [LS.binds]
  | cons v r ih =>
    intro s
    have h1 := ih (s.bind v)
    have h2 := bind_len s v
    have e : s.binds (v :: r) = (s.bind v).binds r := rfl
    rw [e]
    simp
    omega
def promMRel (q : Nat) (G : List Nat) (s : LS) (l : List VS) (w : World) (v10 : Value) (wx : World) : Prop :=
  ∃ (i : Nat) (G2 : List Nat), i ≤ l.length ∧ v10 = .int .i64 (i : Int) ∧ isM wx q G2 (s.binds (l.take i)) ∧ keepBut G w wx ∧ ∀ y ∈ G2, y ∈ G ∨ w.heap.size ≤ y

set_option maxHeartbeats 4000000 in
theorem promiseM_yes (q : Nat) (G Gv : List Nat) (s : LS) (who : Nat) (v : Value) (l : List VS) (w : World) (h : isM w q G s) (hok : s.ok) (hw : who < 3) (hph : s.ph = 1) (hv : votesV w Gv v l) (hG : ∀ y ∈ Gv, y ∉ G ∧ y < w.heap.size) (hT : s.bound.length + l.length ≤ 100000) :
    Calls Try.prog 68 #[.pointer (some ⟨q, 0, none⟩), .int .i64 (who : Int), .int .i64 s.bal, v] w
      (mPost q G (s.promise who s.bal l).2.2 (.tuple #[.bool (s.promise who s.bal l).1, .int .i64 0]) w) := by
  obtain ⟨s1, hs1⟩ : ∃ s1, s1 = { s with prom := orB s.prom who } := ⟨_, rfl⟩
  have hTT : s.promise who s.bal l = if 2 ≤ countOf (s1.binds l).prom then (true, 0, { s1.binds l with ph := 2 }) else (false, 0, s1.binds l) := by
    unfold LS.promise
    rw [if_neg (by simp [hph]), hs1]
  have hb7 : orB s.prom who ≤ 7 := orB_le _ hok.p7 _ hw
  have hsame := LS.binds_same l s1
  have hp7 : (s1.binds l).prom ≤ 7 := by rw [hsame.2.2.2.2.1, hs1]; exact hb7
  have hph1 : (s1.binds l).ph = 1 := by rw [hsame.2.1, hs1]; exact hph
  have hlen : s1.bound.length + l.length ≤ 100000 := by rw [hs1]; exact hT
  have HT := Lib.hid (And.intro hTT (And.intro hp7 (And.intro hph1 hlen)))
  obtain ⟨i1, k1, b, cw⟩ := h.prom hw hok.p7
  rw [← hs1] at i1
  have fw := h.c4.2.2.2 (4 + who)
  have c1 := h.c1
  have c3 := h.c3.1
  rw [hph] at c3
  have hw0 : (0 : Int) ≤ (who : Int) := by omega
  have hw3 : (who : Int) < 3 := by omega
  have hqG := h.mem
  have hv1 := hv.keep k1 (fun y hy hm => (hG y hy).1 (by rw [List.mem_singleton.1 hm]; exact hqG))
  have H1 := Lib.hid (And.intro i1 (And.intro k1 (And.intro hv1 hqG)))
  have HV := Lib.hid hG
  obtain ⟨A, c, rfl, v2, v3, v4, v5⟩ := hv
  unfold maxLen at v3
  clear hs1 hTT hb7 hsame hp7 hph1 hlen i1 k1 hv1 hG v5 hph hok h hT hqG
  go_enter Try.func68, Try.ntmps68
  go_upto_region 6 with (go_at_call 64; refine (masterM_yes _ _ hw0 hw3).mono ?_; rintro e w' ⟨rfl, rfl⟩)
  clear c1 c3 cw fw
  generalize w.setCell ⟨q, 4 + who, none⟩ (.bool true) = w1 at *
  go_wp2_with fail
  go_loopw [10, 32, 33, 34, 35, 36, 37, 38, 39, 40, 41, 42, 43] (fun v10 _ _ _ _ _ _ _ _ _ _ _ _ wx => promMRel q G s1 l w1 v10 wx) (fun v10 _ _ _ _ _ _ _ _ _ _ _ _ _ => l.length - (intOf v10).toNat)
  case atStart => exact ⟨0, G, by omega, rfl, H1.out.1, keepBut.refl _ _, fun y hy => .inl hy⟩
  case round =>
    obtain ⟨i, G2, hi, rfl, i2, k2, g2⟩ := hrel
    have hsz1 := H1.out.2.1.size
    by_cases hlt : i < l.length
    · have hlt' : (i : Int) < (l.length : Int) := by omega
      obtain ⟨d, hd⟩ : ∃ d, l[i]? = some d := ⟨l[i]'hlt, List.getElem?_eq_getElem hlt⟩
      have hvr := H1.out.2.2.1.keep k2 (fun y hy => (HV.out y hy).1)
      obtain ⟨A', c', e', -, -, -, q5⟩ := hvr
      injection e' with ea eb ec
      subst ea ec
      obtain ⟨vg, o, rfl, q2, q3, q4⟩ := q5 (by rintro rfl; simp at hlt)
      obtain ⟨dcv, hdv, d0, d1, d2, d3⟩ := q4 i d hd
      have hdv2 := hdv
      obtain ⟨Ad, cd, gd, rfl, hd2⟩ := hdv2
      have hbl := binds_len (l.take i) s1
      rw [List.length_take] at hbl
      have HR := Lib.hid (And.intro i2 (And.intro hdv (And.intro k2 (And.intro g2 (And.intro hd hbl)))))
      clear i2 k2 g2 q2 q3 q4 q5 hd hdv hd2 hbl
      go_wp2_with fail
      refine (bindM_any q G2 Gv _ d (.slice Ad d.c.chain.length cd) _ HR.out.1 HR.out.2.1 (by have := HR.out.2.2.2.2.2; have := HT.out.2.2.2; omega)).mono ?_; rintro e w5 ⟨rfl, G3, i3, k3, g3⟩
      have hl6 : ∃ G3, isM w5 q G3 (s1.binds (l.take (i + 1))) ∧ keepBut G w1 w5 ∧ ∀ y ∈ G3, y ∈ G ∨ w1.heap.size ≤ y := by
        rw [← binds_take s1 l i d HR.out.2.2.2.2.1]
        refine ⟨G3, i3, HR.out.2.2.1.then k3 (fun y hy => HR.out.2.2.2.1 y hy), fun y hy => ?_⟩
        rcases g3 y hy with h1 | h1
        · exact HR.out.2.2.2.1 y h1
        · exact .inr (Nat.le_trans HR.out.2.2.1.size h1)
      have HL6 := Lib.hid hl6
      clear i3 k3 g3 hl6
      go_wp2_with fail
      go_roundw
      case rel => obtain ⟨G3, a1, a2, a3⟩ := HL6.out; exact ⟨i + 1, G3, by omega, by go_num, a1, a2, a3⟩
      case measure => simp [intOf]; omega
    · obtain rfl : i = l.length := by omega
      rw [List.take_length] at i2
      obtain ⟨d4, d5, d6, -⟩ := i2.c4
      have HC := Lib.hid (manyM_any (s1.binds l).prom HT.out.2.1 wr)
      unfold bitsV at HC
      have hgg : ∀ y ∈ G2, y ∈ G ∨ w.heap.size ≤ y := fun y hy => by rcases g2 y hy with h1 | h1; exact .inl h1; exact .inr (by omega)
      have kk := (H1.out.2.1.more (T := G) (fun y hy => by rw [List.mem_singleton.1 hy]; exact H1.out.2.2.2)).then k2 (fun y hy => .inl hy)
      have HR := Lib.hid (And.intro i2 (And.intro kk hgg))
      clear i2 k2 g2 hgg kk
      go_wp2_with fail
      refine HC.out.mono ?_; rintro e w5 ⟨rfl, k5⟩
      have i5 := HR.out.1.over k5
      have c3 := i5.c3.1
      have f3 := i5.c3.2
      rw [HT.out.2.2.1] at c3
      have HR5 := Lib.hid (And.intro i5 (HR.out.2.1.then k5 (by simp)))
      clear d4 d5 d6 i5 k5
      have hcnt : (2 ≤ countOf (s1.binds l).prom) ∨ ¬ 2 ≤ countOf (s1.binds l).prom := by omega
      rcases hcnt with hc | hc
      · have hc' : (2 : Int) ≤ (countOf (s1.binds l).prom : Int) := by omega
        have HE := Lib.hid (show s.promise who s.bal l = (true, 0, { s1.binds l with ph := 2 }) by rw [HT.out.1, if_pos hc])
        clear hc
        go_wp2
        go_ret2
        rw [HE.out]
        have h6 := HR5.out.1.setPh 2
        exact ⟨rfl, G2, h6.1, HR5.out.2.then h6.2 (fun y hy => by rw [List.mem_singleton.1 hy]; exact HR.out.2.2 _ HR5.out.1.mem), HR.out.2.2⟩
      · have hc' : ¬ (2 : Int) ≤ (countOf (s1.binds l).prom : Int) := by omega
        have HE := Lib.hid (show s.promise who s.bal l = (false, 0, s1.binds l) by rw [HT.out.1, if_neg hc])
        clear hc
        go_wp2
        go_ret2
        rw [HE.out]
        exact ⟨rfl, G2, HR5.out.1, HR5.out.2, HR.out.2.2⟩
end Go.Proofs.Ytbjonlfjfjlelaa
