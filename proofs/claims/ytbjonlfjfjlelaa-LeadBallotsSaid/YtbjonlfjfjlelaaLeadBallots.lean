/-
  LeadBallots: no two masters have a ballot in common.
-/
import Derived.Test.YtbjonlfjfjlelaaLeadCrew
import Derived.Test.YtbjonlfjfjlelaaDuos
import Derived.BigQuiet
import Derived.Laws.Cover1
namespace Go.Proofs.Ytbjonlfjfjlelaa
open Go.RowKit
set_option linter.unusedVariables false
set_option maxRecDepth 100000

def ptC (n : Nat) (p : Nat → Nat) (i : Nat) : Value := if i < n then .pointer (some ⟨p i, 0, none⟩) else .pointer none
/-- the row of the first n leaders -/
def ptRow (n : Nat) (p : Nat → Nat) : Array Value := #[ptC n p 0, ptC n p 1, ptC n p 2]
theorem ptRow_at (n : Nat) (p : Nat → Nat) (k : Nat) (h : k < 3) : (ptRow n p)[k]? = some (ptC n p k) := by
  match k, h with
  | 0, _ => rfl
  | 1, _ => rfl
  | 2, _ => rfl
theorem ptRow_set (n : Nat) (p : Nat → Nat) (q : Nat) (h : n < 3) : (ptRow n p).setIfInBounds n (.pointer (some ⟨q, 0, none⟩)) = ptRow (n + 1) (fun i => if i = n then q else p i) := by
  match n, h with
  | 0, _ => simp [ptRow, ptC]
  | 1, _ => simp [ptRow, ptC]
  | 2, _ => simp [ptRow, ptC]
def lastRow (s : Nat → LS) : Array Value := #[.int .i64 (s 0).bal, .int .i64 (s 1).bal, .int .i64 (s 2).bal]
theorem lastRow_at (s : Nat → LS) (k : Nat) (h : k < 3) : (lastRow s)[k]? = some (.int .i64 (s k).bal) := by
  match k, h with
  | 0, _ => rfl
  | 1, _ => rfl
  | 2, _ => rfl
theorem lastRow_set (s : Nat → LS) (k : Nat) (h : k < 3) (s' : LS) : (lastRow s).setIfInBounds k (.int .i64 s'.bal) = lastRow (fun i => if i = k then s' else s i) := by
  match k, h with
  | 0, _ => simp [lastRow]
  | 1, _ => simp [lastRow]
  | 2, _ => simp [lastRow]
def balRel1 (w : World) (g h : Nat) (v5 : Value) (wx : World) : Prop :=
  ∃ (k : Nat) (p : Nat → Nat) (F : Nat → List Nat) (s : Nat → LS), k ≤ 3 ∧ v5 = .int .i64 (k : Int) ∧ crew k w wx p F s [h, g] ∧ rowAt wx g 68 (ptRow k p) ∧ rowAt wx h 69 #[.int .i64 0, .int .i64 0, .int .i64 0] ∧ ∀ i, i < k → s i = LS.new i
/-- what holds of the leaders before round i -/
def balS (s : Nat → LS) (i : Nat) : Prop := ∀ k, k < 3 → (s k).id = k ∧ 0 ≤ (s k).bal ∧ (s k).bal ≤ 1099511627776 + 4 * i ∧ (s k).prom ≤ 7 ∧ (s k).acc ≤ 7
def balRel2 (w : World) (g h n : Nat) (p : Nat → Nat) (v8 : Value) (wx : World) : Prop :=
  ∃ (i : Nat) (F : Nat → List Nat) (s : Nat → LS), i ≤ n ∧ i ≤ 60 ∧ v8 = .int .i64 (i : Int) ∧ crew 3 w wx p F s [h, g] ∧ rowAt wx g 68 (ptRow 3 p) ∧ rowAt wx h 69 (lastRow s) ∧ balS s i

theorem start_facts (s : LS) (above frm : Int) (i0 : 0 ≤ s.id) (i1 : s.id < 3) (a0 : 0 ≤ above) (a1 : above ≤ 9007199254740988) (f0 : 1 ≤ frm) (f1 : frm ≤ 9007199254740991) :
    ∃ B, s.start above frm = (B, 0, ⟨s.id, 1, B, frm, 0, [], false, CS.zero, 0⟩) ∧ above < B ∧ s.bal < B ∧ B ≤ max above s.bal + 3 ∧ B % 3 = s.id := by
  have h := nextB_ok (max above s.bal + 1) s.id i0 i1
  refine ⟨nextB (max above s.bal + 1) s.id, ?_, by omega, by omega, by omega, h.2.2⟩
  unfold LS.start
  rw [if_neg (by omega)]
theorem balS_step {s : Nat → LS} {i who : Nat} (h : balS s i) (hw : who < 3) (s' : LS) (h0 : s'.id = who) (h1 : 0 ≤ s'.bal) (h2 : s'.bal ≤ 1099511627776 + 4 * i + 3) (h3 : s'.prom ≤ 7) (h4 : s'.acc ≤ 7) :
    balS (fun k => if k = who then s' else s k) (i + 1) := by
  intro k hk
  have := h k hk
  by_cases e : k = who
  · simp only [if_pos e]; rw [e]; exact ⟨h0, h1, by omega, h3, h4⟩
  · simp only [if_neg e]; exact ⟨this.1, this.2.1, by omega, this.2.2.2⟩

set_option maxHeartbeats 2000000 in
theorem leadBallots_walk (A : Option Addr) (n d : Nat) (w : World) (ps : duos w A n) (hnd : n ≤ d) (hd : d ≤ maxLen) :
    Calls Try.prog 6 #[.slice A n d] w (yesPost w) := by
  unfold maxLen at hd
  have HPS := Lib.hid ps
  clear ps
  have c0 := crew.nobody (keepBut.refl [] w) (fun _ => 0) (fun _ => []) (fun _ => LS.new 0)
  have c1 := c0.own_new (.cells (ptRow 0 fun _ => 0) 68)
  have r1 := rowAt.new w 68 (ptRow 0 fun _ => 0)
  have c2 := c1.own_new (.cells #[.int .i64 0, .int .i64 0, .int .i64 0] 69)
  have r2 := rowAt.new (w.alloc (.cells (ptRow 0 fun _ => 0) 68)) 69 #[.int .i64 0, .int .i64 0, .int .i64 0]
  have r1' := ((keepBut.refl [] (w.alloc (.cells (ptRow 0 fun _ => 0) 68))).alloc (.cells #[.int .i64 0, .int .i64 0, .int .i64 0] 69)).row r1 (by simp)
  rw [World.size_alloc] at r2 c2
  have H0 := Lib.hid (And.intro c2 (And.intro r1' r2))
  clear c0 c1 r1 c2 r2 r1'
  go_enter Try.func6, Try.ntmps6
  go_wp2_with fail
  go_loopw [5] (fun v5 wx => balRel1 w w.heap.size (w.heap.size + 1) v5 wx) (fun v5 _ => 3 - (intOf v5).toNat)
  case atStart => exact ⟨0, _, _, _, by omega, rfl, H0.out.1, H0.out.2.1, H0.out.2.2, fun i hi => absurd hi (by omega)⟩
  case round =>
    obtain ⟨k, p, F, s, hk, rfl, hc, hr, hl, hs⟩ := hrel
    clear H0
    by_cases hlt : k < 3
    · have hlt' : (k : Int) < 3 := by omega
      have hcell := (hr.cell k).trans (ptRow_at k p k hlt)
      have hfr := hr.free k
      have HC := Lib.hid hc
      have HR := Lib.hid (And.intro hr (And.intro hl hs))
      clear hc hr hl hs hcell hfr
      go_wp2_with fail
      refine (newL_any k _ (by omega) hlt').mono ?_; intro e w1 hq; obtain ⟨p', F', rfl, hc1, hk1⟩ := HC.out.more hq; clear hq
      have hr1 := hk1.row HR.out.1 (by simp)
      have hl1 := hk1.row HR.out.2.1 (by simp)
      have hcell := (hr1.cell k).trans (ptRow_at k p k hlt)
      have hfr := hr1.free k
      have hr2 := hr1.set k (.pointer (some ⟨p', 0, none⟩))
      rw [ptRow_set k p p' hlt] at hr2
      have hkk := (keepBut.refl [w.heap.size] w1).setCell ⟨w.heap.size, k, none⟩ (.pointer (some ⟨p', 0, none⟩)) (by simp)
      have hl2 := hkk.row hl1 (by simp)
      have hc2 := hc1.poke (g := w.heap.size) (by simp) hkk
      have H2 := Lib.hid (And.intro hc2 (And.intro hr2 hl2))
      clear hc1 hr1 hl1 hr2 hl2 hc2 hkk hk1
      go_wp2_with fail
      go_roundw
      case rel => exact ⟨k + 1, _, _, _, by omega, by go_num, H2.out.1, H2.out.2.1, H2.out.2.2, fun i hi => by
          by_cases e : i = k
          · rw [if_pos e, e]
          · rw [if_neg e]; exact HR.out.2.2 i (by omega)⟩
      case measure => simp [intOf]; omega
    · obtain rfl : k = 3 := by omega
      have hb : balS s 0 := fun k hk => by rw [hs k hk]; simp [LS.new]
      have hl0 : rowAt wr (w.heap.size + 1) 69 (lastRow s) := by
        unfold lastRow; rw [hs 0 (by omega), hs 1 (by omega), hs 2 (by omega)]; exact hl
      have H0 := Lib.hid (And.intro hc (And.intro hr (And.intro hl0 hb)))
      clear hc hr hl hs hb hl0 hlt
      rw [show ((3 : Nat) : Int) = 3 from rfl]
      go_wp2_with fail
      go_loopw [8] (fun v8 wx => balRel2 w w.heap.size (w.heap.size + 1) n p v8 wx) (fun v8 _ => n - (intOf v8).toNat)
      case atStart => exact ⟨0, F, s, by omega, by omega, rfl, H0.out⟩
      case round =>
        obtain ⟨i, F, s, hi, hi60, rfl, hc, hr, hl, hb⟩ := hrel
        clear H0
        by_cases hlt : i < n ∧ i < 60
        · obtain ⟨hlt1, hlt2⟩ := hlt
          have hlt1' : (i : Int) < (n : Int) := by omega
          have hlt2' : (i : Int) < 60 := by omega
          obtain ⟨gA, o, rfl, hgA, hall⟩ := HPS.out (by omega)
          obtain ⟨x, y, cx, cy, wx, wy⟩ := hall i hlt1
          have hkc := fun q => hc.kept.cell (p := ⟨gA, q, none⟩) hgA (by simp)
          rw [← hkc] at cx cy
          have hxb : -9223372036854775808 ≤ x ∧ x ≤ 9223372036854775807 := by simpa [Lit.wf, IntKind.min, IntKind.max, IntKind.signed, IntKind.bits] using wx
          have hyb : -9223372036854775808 ≤ y ∧ y ≤ 9223372036854775807 := by simpa [Lit.wf, IntKind.min, IntKind.max, IntKind.signed, IntKind.bits] using wy
          obtain ⟨who, hw⟩ : ∃ who : Nat, x % 3 = (who : Int) := ⟨(x % 3).toNat, by have := Int.emod_nonneg x (show (3 : Int) ≠ 0 by omega); omega⟩
          have hw3 : who < 3 := by have := Int.emod_lt_of_pos x (show (0 : Int) < 3 by omega); omega
          have hw3' : (who : Int) < 3 := by omega
          obtain ⟨ab, hab⟩ : ∃ ab : Int, y % 1099511627776 = ab := ⟨_, rfl⟩
          have hab0 : 0 ≤ ab ∧ ab < 1099511627776 := by omega
          have hC := Lib.hid hc
          have HL := Lib.hid (And.intro hr (And.intro hl hb))
          have HW := Lib.hid (And.intro hw hab)
          have l0 := (hl.cell 0).trans (lastRow_at s 0 (by omega))
          have l1 := (hl.cell 1).trans (lastRow_at s 1 (by omega))
          have l2 := (hl.cell 2).trans (lastRow_at s 2 (by omega))
          clear hc hr hl hb hw hab hkc wx wy hall
          go_upto_region 13 with fail
          go_quiet ((first | (go_at_call 38; with_reducible exact Calls.quiet_of_same ((bring_any x 3 hxb.1 hxb.2 (by omega) (by omega) _).mono (fun _ _ ⟨a, b⟩ => ⟨a, b.symm⟩))) | (go_at_call 38; with_reducible exact Calls.quiet_of_same ((bring_any y 1099511627776 hyb.1 hyb.2 (by omega) (by omega) _).mono (fun _ _ ⟨a, b⟩ => ⟨a, b.symm⟩)))))
          rw [HW.out.1, HW.out.2]
          have hmb : ∀ k, k < 3 → 0 ≤ (s k).bal ∧ (s k).bal ≤ 1099511627776 + 4 * (i : Int) := fun k hk => ⟨(HL.out.2.2 k hk).2.1, (HL.out.2.2 k hk).2.2.1⟩
          have hm0 := hmb 0 (by omega)
          have hm1 := hmb 1 (by omega)
          have hm2 := hmb 2 (by omega)
          have HM := Lib.hid (And.intro hm0 (And.intro hm1 hm2))
          have HI := Lib.hid (And.intro hi60 (And.intro hlt2 hab0))
          clear hmb hm0 hm1 hm2
          go_upto_if 55 with fail
          go_cut [10] from 27 to 127 (fun v10 wx => ∃ (a : Int) (m : Nat), v10 = .int .i64 a ∧ -2 ≤ a ∧ a ≤ 1099511627776 + 4 * (i : Int) ∧ wx = wr.drewN m)
          case first =>
            by_cases hev : y.tmod 2 = 0
            · go_upto_region 15 with fail
              go_quiet ((go_at_call 38; with_reducible refine (bring_any y 3 hyb.1 hyb.2 (by omega) (by omega) _).mono ?_; rintro e w' ⟨rfl, rfl⟩; exact ⟨rfl, _, rfl⟩))
              go_wp2_with fail
              all_goals
                go_meet
                refine ⟨_, _, rfl, ?_, ?_, rfl⟩
              all_goals
                have h0 := HM.out
                have h1 := HI.out
                have h2 := Int.emod_nonneg y (show (3 : Int) ≠ 0 by omega)
                have h3 := Int.emod_lt_of_pos y (show (0 : Int) < 3 by omega)
                obtain ⟨t, ht⟩ : ∃ t, y % 3 = t := ⟨_, rfl⟩
                rw [ht] at h2 h3 ⊢
                unfold wrap64
                omega
            · go_wp2_with fail
              go_meet
              exact ⟨_, _, rfl, by omega, by omega, rfl⟩
          case rest =>
            obtain ⟨a, m, rfl, ha0, ha1, rfl⟩ := hcut
            go_upto_region 17 with fail
            generalize hE : (if a < 0 then (0 : Int) else a) = b
            have hb0 : 0 ≤ b ∧ b ≤ 1099511627776 + 4 * (i : Int) := by
              rw [← hE]; split <;> omega
            have hbb := HI.out
            clear hE ha0 ha1 cx cy l0 l1 l2
            have hC2 := hC.out.over ((keepBut.refl [] wr).drewN m)
            have hr2 := ((keepBut.refl [] wr).drewN m).row HL.out.1 (by simp)
            have hl2 := ((keepBut.refl [] wr).drewN m).row HL.out.2.1 (by simp)
            have hbal := HL.out.2.2
            generalize wr.drewN m = w1 at hC2 hr2 hl2 ⊢
            have hp1 := (hr2.cell who).trans (ptRow_at 3 p who hw3)
            rw [show ptC 3 p who = .pointer (some ⟨p who, 0, none⟩) from if_pos hw3] at hp1
            have hC3 := Lib.hid hC2
            have HR3 := Lib.hid (And.intro hr2 (And.intro hl2 hbal))
            clear hC2 hr2 hl2 hbal
            go_wp2_with fail
            have hbw := HR3.out.2.2 who hw3
            obtain ⟨B, hst, hB1, hB2, hB3, hB4⟩ := start_facts (s who) b 1 (by omega) (by omega) hb0.1 (by omega) (by omega) (by omega)
            refine (start_yes (p who) (F who) (s who) b 1 _ (hC3.out.is who hw3) ⟨by omega, by omega, by omega, by omega, by omega, by omega⟩ hb0.1 (by omega) (by omega) (by omega)).mono ?_
            rintro e w2 ⟨rfl, hl⟩
            rw [hst] at hl ⊢
            obtain ⟨F', hc4, hkF⟩ := hC3.out.l hw3 hl
            have hr4 := hC3.out.row hw3 (by simp) hkF HR3.out.1
            have hl4 := hC3.out.row hw3 (by simp) hkF HR3.out.2.1
            have hp2 := (hr4.cell who).trans (ptRow_at 3 p who hw3)
            rw [show ptC 3 p who = .pointer (some ⟨p who, 0, none⟩) from if_pos hw3] at hp2
            have hcl := (hl4.cell who).trans (lastRow_at s who hw3)
            have hfl := hl4.free who
            have hiL : isL w2 (p who) F' ⟨(s who).id, 1, B, 1, 0, [], false, CS.zero, 0⟩ := by have := hc4.is who hw3; simpa using this
            obtain ⟨L, hL⟩ : ∃ L, (s who).bal = L := ⟨_, rfl⟩
            have hl5 := hl4.set who (.int .i64 B)
            rw [show (lastRow s).setIfInBounds who (.int .i64 B) = _ from lastRow_set s who hw3 ⟨(s who).id, 1, B, 1, 0, [], false, CS.zero, 0⟩] at hl5
            have hkk := (keepBut.refl [w.heap.size + 1] w2).setCell ⟨w.heap.size + 1, who, none⟩ (.int .i64 B) (by simp)
            have hr5 := hkk.row hr4 (by simp)
            have hc5 := hc4.poke (g := w.heap.size + 1) (by simp) hkk
            have hb5 := balS_step HR3.out.2.2 hw3 ⟨(s who).id, 1, B, 1, 0, [], false, CS.zero, 0⟩ hbw.1 (by show 0 ≤ B; omega) (by show B ≤ _; omega) (by simp) (by simp)
            have H5 := Lib.hid (And.intro hc5 (And.intro hr5 (And.intro hl5 hb5)))
            rw [hL] at hcl hB2 hB3
            have hmod : B.tmod 3 = (who : Int) := by
              rw [Int.tmod_eq_emod_of_nonneg (by omega), hB4, hbw.1]
            have HIL := Lib.hid hiL
            have hn1 : ¬ B ≤ b := by omega
            have hn2 : ¬ B ≤ L := by omega
            have hLb : 0 ≤ L ∧ L ≤ 1099511627776 + 4 * (i : Int) := by rw [← hL]; exact ⟨hbw.2.1, hbw.2.2.1⟩
            have hor : L ≤ b ∨ b < L := by omega
            clear hr4 hl4 hl5 hkk hr5 hc5 hb5 hc4 hkF hl hst hiL hbw hp1 hL hB4
            rcases hor with hor | hor
            all_goals
              go_wp2_with fail
              refine (ballotL_any (p who) F' _ _ HIL.out).mono ?_; rintro e w3 ⟨rfl, rfl⟩
              go_wp2_with fail
              refine (phaseL_any (p who) F' _ _ HIL.out).mono ?_; rintro e w3 ⟨rfl, rfl⟩
              go_wp2_with fail
              go_roundw
              case rel => exact ⟨i + 1, _, _, by omega, by omega, by go_num, H5.out⟩
              case measure => simp [intOf]; omega
        · have hor : ¬ (i : Int) < (n : Int) ∨ ((i : Int) < (n : Int) ∧ ¬ (i : Int) < 60) := by omega
          have HK := Lib.hid hc.kept
          clear hc hr hl hb
          rcases hor with hor | ⟨hor, hor2⟩
          all_goals
            go_wp2_with fail
            refine (works_any _).mono ?_; rintro e w6 ⟨rfl, hkw⟩
            have HKW := Lib.hid (HK.out.then hkw (by simp))
            clear hkw
            go_wp2_with fail
            go_ret
            exact ⟨rfl, HKW.out⟩
end Go.Proofs.Ytbjonlfjfjlelaa
