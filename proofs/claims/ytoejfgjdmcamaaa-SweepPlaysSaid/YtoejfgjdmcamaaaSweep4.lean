/-
  SWEEP, 4: Took.
-/
import Derived.Test.YtoejfgjdmcamaaaSweep3
namespace Go.Proofs.Ytoejfgjdmcamaaa
open Go.RowKit
set_option linter.unusedVariables false
set_option maxRecDepth 100000

/-- what a sweep that waits is when a result was taken -/
def SS.res (s : SS) (c : Int) (dif : Bool) : SS :=
  if c = 212 then (if s.pat < s.late + 1 then SS.fail { s with waits := false, late := s.late + 1 } 212 else { s with waits := false, late := s.late + 1 })
  else if (SS.took1 { s with waits := false, late := 0 } c dif).1 then (SS.took1 { s with waits := false, late := 0 } c dif).2 else (SS.took1 { s with waits := false, late := 0 } c dif).2.fail c
def SS.took (s : SS) (c : Int) (dif : Bool) : Int × SS := if s.waits then (0, s.res c dif) else (170, s)

theorem SS.ok.tell {s : SS} (h : s.ok) (hp : s.ph ≤ 3) : SS.ok { s with waits := true } := ⟨h.p1, h.p5, h.a0, h.a1, h.n0, h.n1, h.m0, h.m1, h.l0, h.l1, fun _ => hp⟩

theorem rules_at1 (w : World) : (Instr.index 65 rulesV (.int .i64 1)).run Try.prog w = .ok (.agg #[.func (.func 30) #[] #[]]) w := by kernel_rfl
theorem rules_at2 (w : World) : (Instr.index 65 rulesV (.int .i64 2)).run Try.prog w = .ok (.agg #[.func (.func 31) #[] #[]]) w := by kernel_rfl
theorem rules_at3 (w : World) : (Instr.index 65 rulesV (.int .i64 3)).run Try.prog w = .ok (.agg #[.func (.func 32) #[] #[]]) w := by kernel_rfl
theorem rules_fn1 (w : World) : (Instr.field 64 (.agg #[.func (.func 30) #[] #[]]) 0).run Try.prog w = .ok (.func (.func 30) #[] #[]) w := by kernel_rfl
theorem rules_fn2 (w : World) : (Instr.field 64 (.agg #[.func (.func 31) #[] #[]]) 0).run Try.prog w = .ok (.func (.func 31) #[] #[]) w := by kernel_rfl
theorem rules_fn3 (w : World) : (Instr.field 64 (.agg #[.func (.func 32) #[] #[]]) 0).run Try.prog w = .ok (.func (.func 32) #[] #[]) w := by kernel_rfl
/-- whatever a result of a phase does -/
theorem tookAll_any (p : Nat) (s : SS) (c : Int) (A : Option Addr) (n m : Nat) (t : Bool) (v f l : Int) (w : World) (h : isS w p s) (hok : s.ok) (k : FuncId)
    (hk : (s.ph = 1 ∧ k = 30) ∨ (s.ph = 2 ∧ k = 31) ∨ (s.ph = 3 ∧ k = 32)) :
    Calls Try.prog k #[.pointer (some ⟨p, 0, none⟩), .agg (gotV c A n m t v f l)] w (sPost p (s.took1 c (f != l)).2 (.bool (s.took1 c (f != l)).1) w) := by
  rcases hk with ⟨h1, rfl⟩ | ⟨h1, rfl⟩ | ⟨h1, rfl⟩
  · exact tookRotate_any p s c A n m t v f l w h h1
  · exact tookBack_any p s c A n m t v f l w h h1
  · exact tookOn_any p s c A n m t v f l w h h1 hok

def tookCut (p b : Nat) (s : SS) (g : Array Value) (w : World) (r : Bool) (v51 : Value) (wx : World) : Prop :=
  v51 = .bool (!r) ∧ isS wx p s ∧ rowAt wx b 36 g ∧ keepBut [p] w wx

set_option maxHeartbeats 1000000 in
theorem tookNo_any (p : Nat) (s : SS) (c : Int) (A : Option Addr) (n m : Nat) (t : Bool) (v f l : Int) (w : World) (h : isS w p s) (hok : s.ok) (hw : s.waits = false) :
    Calls Try.prog 10 #[.pointer (some ⟨p, 0, none⟩), .agg (gotV c A n m t v f l)] w (sPost p s (.int .i64 170) w) := by
  have h' : isS (w.alloc (.cells (gotV c A n m t v f l) 36)) p s := h.keep ((keepBut.refl [] w).alloc _) (by simp)
  have hk := (keepBut.refl [p] w).alloc (.cells (gotV c A n m t v f l) 36)
  unfold gotV at h' hk ⊢
  have gc3 : (w.alloc (.cells #[.int .i64 c, .slice A n m, .bool t, .int .i64 v, .int .i64 f, .int .i64 l] 36)).cell? ⟨p, 3, none⟩ = some (.bool s.waits) := h'.cell 3
  rw [hw] at gc3
  have h1 := hok.p1
  have H := Lib.hid (And.intro h' hk)
  clear h' hk h hw hok
  go_enter Try.func10, Try.ntmps10
  go_wp2_with (go_at_call 22; refine (noneS_any _ _ _ H.out.1 h1).mono ?_; rintro e w' ⟨rfl, rfl⟩)
  go_ret
  exact ⟨rfl, H.out⟩

set_option maxHeartbeats 16000000 in
theorem took_any (p : Nat) (s : SS) (c : Int) (A : Option Addr) (n m : Nat) (t : Bool) (v f l : Int) (w : World) (h : isS w p s) (hok : s.ok) (hw : s.waits = true) :
    Calls Try.prog 10 #[.pointer (some ⟨p, 0, none⟩), .agg (gotV c A n m t v f l)] w (sPost p (s.res c (f != l)) (.int .i64 0) w) := by
  have h' : isS (w.alloc (.cells (gotV c A n m t v f l) 36)) p s := h.keep ((keepBut.refl [] w).alloc _) (by simp)
  have hr := rowAt.new w 36 (gotV c A n m t v f l)
  have hk := (keepBut.refl [p] w).alloc (.cells (gotV c A n m t v f l) 36)
  have hne1 : w.heap.size ≠ p := Nat.ne_of_gt (rowAt.lt h)
  have hne2 : p ≠ w.heap.size := Nat.ne_of_lt (rowAt.lt h)
  have hblt : w.heap.size < (w.alloc (.cells (gotV c A n m t v f l) 36)).heap.size := by simp
  unfold gotV at h' hk hr hblt ⊢
  have gc3 : (w.alloc (.cells #[.int .i64 c, .slice A n m, .bool t, .int .i64 v, .int .i64 f, .int .i64 l] 36)).cell? ⟨p, 3, none⟩ = some (.bool s.waits) := h'.cell 3
  have gf3 : (w.alloc (.cells #[.int .i64 c, .slice A n m, .bool t, .int .i64 v, .int .i64 f, .int .i64 l] 36)).frozen? ⟨p, 3, none⟩ = false := h'.free 3
  rw [hw] at gc3
  have h1 := hok.p1
  have e1 : isS ((w.alloc (.cells #[.int .i64 c, .slice A n m, .bool t, .int .i64 v, .int .i64 f, .int .i64 l] 36)).setCell ⟨p, 3, none⟩ (.bool false)) p { s with waits := false } := by
    have := rowAt.set h' 3 (.bool false)
    simpa [isS] using this
  have e2 := hk.setCell ⟨p, 3, none⟩ (.bool false) (by simp)
  have e3 := ((keepBut.refl [p] _).setCell ⟨p, 3, none⟩ (.bool false) (by simp)).row hr (by simpa using hne1)
  have hok2 : SS.ok { s with waits := false } := ⟨hok.p1, hok.p5, hok.a0, hok.a1, hok.n0, hok.n1, hok.m0, hok.m1, hok.l0, hok.l1, fun h => by cases h⟩
  have hp3 := hok.wt hw
  have HW := Lib.hid hw
  have H := Lib.hid (And.intro h' (And.intro e1 (And.intro e2 e3)))
  clear h' hk h hw e1 e2 e3 hr
  go_enter Try.func10, Try.ntmps10
  go_upto_region 6 with (go_at_call 22; refine (noneS_any _ _ _ H.out.1 h1).mono ?_; rintro e w' ⟨rfl, rfl⟩)
  obtain ⟨-, e1, e2, e3⟩ := H.out
  clear gc3 gf3 H
  generalize (w.alloc (.cells #[.int .i64 c, .slice A n m, .bool t, .int .i64 v, .int .i64 f, .int .i64 l] 36)).setCell ⟨p, 3, none⟩ (.bool false) = w2 at *
  clear hblt
  generalize hb : w.heap.size = b at *
  have HB := Lib.hid hb; clear hb
  have g0 : w2.cell? ⟨b, 0, none⟩ = some (.int .i64 c) := e3.cell 0
  have c6 : w2.cell? ⟨p, 6, none⟩ = some (.int .i64 s.late) := e1.cell 6
  have c2 : w2.cell? ⟨p, 2, none⟩ = some (.int .i64 s.pat) := e1.cell 2
  have f6 : w2.frozen? ⟨p, 6, none⟩ = false := e1.free 6
  have l0 := hok.l0
  have l1 := hok.l1
  by_cases h2 : c = 212
  · subst h2
    have e4 : isS (w2.setCell ⟨p, 6, none⟩ (.int .i64 (s.late + 1))) p { s with waits := false, late := s.late + 1 } := by
      have := rowAt.set e1 6 (.int .i64 (s.late + 1))
      simpa [isS] using this
    have e5 := e2.setCell ⟨p, 6, none⟩ (.int .i64 (s.late + 1)) (by simp)
    by_cases hl : s.pat < s.late + 1
    · have HE := Lib.hid (show s.res 212 (f != l) = SS.fail { s with waits := false, late := s.late + 1 } 212 by simp [SS.res, hl])
      have H4 := Lib.hid (And.intro e4 e5)
      clear e1 e2 e3 e4 e5 hok hok2
      go_wp2
      go_region
      go_wp2_with (go_at_call 26; refine (fail_any _ _ _ _ (H4.out.1.keep ((keepBut.refl [] _).drewN _) (by simp))).mono ?_; rintro e w' ⟨rfl, a1, a2⟩)
      go_ret
      rw [HE.out]
      exact ⟨rfl, a1, (H4.out.2.drewN 1).then a2 (by simp)⟩
    · have HE := Lib.hid (show s.res 212 (f != l) = { s with waits := false, late := s.late + 1 } by simp [SS.res, hl])
      have H4 := Lib.hid (And.intro e4 e5)
      have hl' : s.late + 1 ≤ s.pat := by omega
      clear e1 e2 e3 e4 e5 hok hok2 hl
      go_wp2
      go_region
      go_wp2
      go_ret
      rw [HE.out]
      exact ⟨rfl, H4.out.1.keep ((keepBut.refl [] _).drewN _) (by simp), H4.out.2.drewN _⟩
  · have t2 : (c == 212) = false := by simpa using h2
    have e4 : isS (w2.setCell ⟨p, 6, none⟩ (.int .i64 0)) p { s with waits := false, late := 0 } := by
      have := rowAt.set e1 6 (.int .i64 0)
      simpa [isS] using this
    have e5 := e2.setCell ⟨p, 6, none⟩ (.int .i64 0) (by simp)
    have e6 := ((keepBut.refl [p] w2).setCell ⟨p, 6, none⟩ (.int .i64 0) (by simp)).row e3 (by simpa using hne1)
    have ok4 : SS.ok { s with waits := false, late := 0 } := ⟨hok.p1, hok.p5, hok.a0, hok.a1, hok.n0, hok.n1, hok.m0, hok.m1, by simp, by simp, fun h => by cases h⟩
    have HE := Lib.hid (show s.res c (f != l) = if (SS.took1 { s with waits := false, late := 0 } c (f != l)).1 then (SS.took1 { s with waits := false, late := 0 } c (f != l)).2 else (SS.took1 { s with waits := false, late := 0 } c (f != l)).2.fail c by simp [SS.res, h2])
    have HT := Lib.hid (And.intro e4 (And.intro e5 (And.intro e6 ok4)))
    clear e1 e2 e3 e4 e5 e6 ok4 hok hok2 h2 c2
    go_upto_region 12 with fail
    obtain ⟨e4, e5, e6, ok4⟩ := HT.out
    clear HT c6 f6 g0
    generalize w2.setCell ⟨p, 6, none⟩ (.int .i64 0) = w3 at *
    generalize hs4 : (SS.mk s.ph s.back s.pat false s.seen s.sealed 0 s.why) = s4 at *
    have hph : s4.ph = s.ph := by rw [← hs4]
    have HPH := Lib.hid hph
    have HS4 := Lib.hid hs4
    obtain ⟨T1, hT1⟩ : ∃ T1, s4.took1 c (f != l) = T1 := ⟨_, rfl⟩
    have TA : ∀ (w : World) (h : isS w p s4) (k : FuncId) (hk : (s4.ph = 1 ∧ k = 30) ∨ (s4.ph = 2 ∧ k = 31) ∨ (s4.ph = 3 ∧ k = 32)),
        Calls Try.prog k #[.pointer (some ⟨p, 0, none⟩), .agg #[.int .i64 c, .slice A n m, .bool t, .int .i64 v, .int .i64 f, .int .i64 l]] w (sPost p T1.2 (.bool T1.1) w) := by
      intro w h k hk
      rw [← hT1]
      exact tookAll_any p s4 c A n m t v f l w h ok4 k hk
    have HTA := Lib.hid TA
    have HT1 := Lib.hid hT1
    have HT := Lib.hid (And.intro e4 (And.intro e5 e6))
    have hp1 : s.ph = 1 ∨ s.ph = 2 ∨ s.ph = 3 := by omega
    have hr3 := e6
    clear hph hs4 hT1 TA ok4 e5
    go_cut [51] (fun v51 wx => tookCut p b T1.2 #[.int .i64 c, .slice A n m, .bool t, .int .i64 v, .int .i64 f, .int .i64 l] w3 T1.1 v51 wx)
    case first =>
      have c0 : w3.cell? ⟨p, 0, none⟩ = some (.int .i64 s4.ph) := e4.cell 0
      rw [HPH.out] at c0
      have HL := Lib.hid (And.intro (rowAt.lt e4) e6.lt)
      have b0 : w3.cell? ⟨b, 0, none⟩ = some (.int .i64 c) := e6.cell 0
      have b1 : w3.cell? ⟨b, 1, none⟩ = some (.slice A n m) := e6.cell 1
      have b2 : w3.cell? ⟨b, 2, none⟩ = some (.bool t) := e6.cell 2
      have b3 : w3.cell? ⟨b, 3, none⟩ = some (.int .i64 v) := e6.cell 3
      have b4 : w3.cell? ⟨b, 4, none⟩ = some (.int .i64 f) := e6.cell 4
      have b5 : w3.cell? ⟨b, 5, none⟩ = some (.int .i64 l) := e6.cell 5
      have HNE := Lib.hid hne1
      have HE4 := Lib.hid e4
      clear e4 e6 hr3 HT1 HS4 HB HW l0 l1 t2 h1 hp3 hne1 hne2 HE
      rcases hp1 with hq | hq | hq
      · have TK := fun (w : World) (h : isS w p s4) => HTA.out w h 30 (.inl ⟨HPH.out.trans hq, rfl⟩)
        have HTK := Lib.hid TK
        rw [hq] at c0
        clear hq TK HTA HPH
        have ix := rules_at1
        have fx := rules_fn1
        go_region_law (first | (go_simp; go_at_call 27; refine (rules_any _).mono ?_; rintro e w4 ⟨rfl, hk4⟩; have kk := (((keepBut.refl [] w3).drew).then hk4 (by simp)); have d0 := (kk.cell (p := ⟨p, 0, none⟩) HL.out.1 (by simp)).trans c0; have g0 := (kk.cell (p := ⟨b, 0, none⟩) HL.out.2 (by simp)).trans b0; have g1 := (kk.cell (p := ⟨b, 1, none⟩) HL.out.2 (by simp)).trans b1; have g2 := (kk.cell (p := ⟨b, 2, none⟩) HL.out.2 (by simp)).trans b2; have g3 := (kk.cell (p := ⟨b, 3, none⟩) HL.out.2 (by simp)).trans b3; have g4 := (kk.cell (p := ⟨b, 4, none⟩) HL.out.2 (by simp)).trans b4; have g5 := (kk.cell (p := ⟨b, 5, none⟩) HL.out.2 (by simp)).trans b5)  | (go_simp; go_at_call 30; refine (HTK.out _ (HT.out.1.keep kk (by simp))).mono ?_; rintro e w5 ⟨rfl, i5, k5⟩))
        all_goals
          go_wp2
          go_meet
          exact ⟨rfl, i5, k5.row (kk.row HT.out.2.2 (by simp)) (by simpa using HNE.out), (kk.more (by simp)).then k5 (by simp)⟩
      · have TK := fun (w : World) (h : isS w p s4) => HTA.out w h 31 (.inr (.inl ⟨HPH.out.trans hq, rfl⟩))
        have HTK := Lib.hid TK
        rw [hq] at c0
        clear hq TK HTA HPH
        have ix := rules_at2
        have fx := rules_fn2
        go_region_law (first | (go_simp; go_at_call 27; refine (rules_any _).mono ?_; rintro e w4 ⟨rfl, hk4⟩; have kk := (((keepBut.refl [] w3).drew).then hk4 (by simp)); have d0 := (kk.cell (p := ⟨p, 0, none⟩) HL.out.1 (by simp)).trans c0; have g0 := (kk.cell (p := ⟨b, 0, none⟩) HL.out.2 (by simp)).trans b0; have g1 := (kk.cell (p := ⟨b, 1, none⟩) HL.out.2 (by simp)).trans b1; have g2 := (kk.cell (p := ⟨b, 2, none⟩) HL.out.2 (by simp)).trans b2; have g3 := (kk.cell (p := ⟨b, 3, none⟩) HL.out.2 (by simp)).trans b3; have g4 := (kk.cell (p := ⟨b, 4, none⟩) HL.out.2 (by simp)).trans b4; have g5 := (kk.cell (p := ⟨b, 5, none⟩) HL.out.2 (by simp)).trans b5)  | (go_simp; go_at_call 31; refine (HTK.out _ (HT.out.1.keep kk (by simp))).mono ?_; rintro e w5 ⟨rfl, i5, k5⟩))
        all_goals
          go_wp2
          go_meet
          exact ⟨rfl, i5, k5.row (kk.row HT.out.2.2 (by simp)) (by simpa using HNE.out), (kk.more (by simp)).then k5 (by simp)⟩
      · have TK := fun (w : World) (h : isS w p s4) => HTA.out w h 32 (.inr (.inr ⟨HPH.out.trans hq, rfl⟩))
        have HTK := Lib.hid TK
        rw [hq] at c0
        clear hq TK HTA HPH
        have ix := rules_at3
        have fx := rules_fn3
        go_region_law (first | (go_simp; go_at_call 27; refine (rules_any _).mono ?_; rintro e w4 ⟨rfl, hk4⟩; have kk := (((keepBut.refl [] w3).drew).then hk4 (by simp)); have d0 := (kk.cell (p := ⟨p, 0, none⟩) HL.out.1 (by simp)).trans c0; have g0 := (kk.cell (p := ⟨b, 0, none⟩) HL.out.2 (by simp)).trans b0; have g1 := (kk.cell (p := ⟨b, 1, none⟩) HL.out.2 (by simp)).trans b1; have g2 := (kk.cell (p := ⟨b, 2, none⟩) HL.out.2 (by simp)).trans b2; have g3 := (kk.cell (p := ⟨b, 3, none⟩) HL.out.2 (by simp)).trans b3; have g4 := (kk.cell (p := ⟨b, 4, none⟩) HL.out.2 (by simp)).trans b4; have g5 := (kk.cell (p := ⟨b, 5, none⟩) HL.out.2 (by simp)).trans b5)  | (go_simp; go_at_call 32; refine (HTK.out _ (HT.out.1.keep kk (by simp))).mono ?_; rintro e w5 ⟨rfl, i5, k5⟩))
        all_goals
          go_wp2
          go_meet
          exact ⟨rfl, i5, k5.row (kk.row HT.out.2.2 (by simp)) (by simpa using HNE.out), (kk.more (by simp)).then k5 (by simp)⟩
    case rest =>
      obtain ⟨rfl, i5, r5, k5⟩ := hcut
      generalize wc = w5 at *
      have g0 : w5.cell? ⟨b, 0, none⟩ = some (.int .i64 c) := r5.cell 0
      have H5 := Lib.hid (And.intro i5 (HT.out.2.1.then k5 (by simp)))
      clear i5 r5 k5 e4 e6 hr3 hp1
      cases hb1 : T1.1 with
      | true =>
        have HE2 := Lib.hid (show s.res c (f != l) = T1.2 by rw [HE.out, HT1.out, hb1]; rfl)
        clear hb1
        go_wp2
        go_ret
        rw [HE2.out]
        exact ⟨rfl, H5.out⟩
      | false =>
        have HE2 := Lib.hid (show s.res c (f != l) = T1.2.fail c by rw [HE.out, HT1.out, hb1]; rfl)
        clear hb1
        go_wp2_with (go_at_call 26; refine (fail_any _ _ _ _ H5.out.1).mono ?_; rintro e w' ⟨rfl, a1, a2⟩)
        go_ret
        rw [HE2.out]
        exact ⟨rfl, a1, H5.out.2.then a2 (by simp)⟩
end Go.Proofs.Ytoejfgjdmcamaaa
