/-
  SweepLate: how many deeds in a row may be too late.
-/
import Derived.Test.YtoejfgjdmcamaaaSweep7
import Derived.Test.YtoejfgjdmcamaaaOpen
namespace Go.Proofs.Ytoejfgjdmcamaaa
open Go.RowKit
set_option linter.unusedVariables false
set_option maxRecDepth 100000

/-- behind i names, and j deeds that were too late -/
def lateS (P i j : Nat) : SS := if j ≤ P then ⟨3, false, P, false, i, 0, j, 0⟩ else ⟨5, false, P, false, i, 0, j, 212⟩
theorem lateS_le {P i j : Nat} (h : j ≤ P) : lateS P i j = ⟨3, false, P, false, i, 0, j, 0⟩ := if_pos h
theorem lateS_ok (P i j : Nat) (hP : P ≤ 20) (hi : i ≤ 100) (hj : j ≤ 100) : (lateS P i j).ok := by
  unfold lateS
  split
  · exact ⟨by simp, by simp, by simp, by simp; omega, by simp, by simp; omega, by simp, by simp, by simp, by simp; omega, by simp⟩
  · exact ⟨by simp, by simp, by simp, by simp; omega, by simp, by simp; omega, by simp, by simp, by simp, by simp; omega, by simp⟩
theorem lateS_late (P i j : Nat) (h : j ≤ P) : SS.after (lateS P i j) 212 ((0 : Int) != 0) = lateS P i (j + 1) := by
  rw [lateS_le h]
  unfold lateS SS.after SS.res SS.fail
  by_cases hl : j + 1 ≤ P
  · have : ¬ (P : Int) < (j : Int) + 1 := by omega
    simp [hl, this]
  · have : (P : Int) < (j : Int) + 1 := by omega
    simp [hl, this]
theorem lateS_fine (P i j : Nat) (h : j ≤ P) : SS.after (lateS P i j) 0 ((1 : Int) != 1) = lateS P (i + 1) 0 := by
  rw [lateS_le h, lateS_le (Nat.zero_le _)]
  unfold SS.after SS.res SS.took1
  simp
theorem lateS_ph (P i j : Nat) (h : j ≤ P) : (lateS P i j).ph = 3 := by rw [lateS_le h]
theorem lateS_waits (P i j : Nat) : (lateS P i j).waits = false := by unfold lateS; split <;> rfl
theorem lateS_seen (P i j : Nat) : (lateS P i j).seen = (i : Int) := by unfold lateS; split <;> rfl
theorem lateS_deed (P i j : Nat) : (lateS P i j).deed = 6 := by unfold lateS SS.deed; split <;> simp
theorem lateS_why (P i j : Nat) (h : j ≤ P) : (lateS P i j).why = 0 := by rw [lateS_le h]
theorem lateS_end (P i : Nat) : lateS P i (P + 1) = ⟨5, false, P, false, i, 0, ((P + 1 : Nat) : Int), 212⟩ := if_neg (by omega)
def lateRel1 (w : World) (p P M : Nat) (v7 : Value) (wx : World) : Prop := ∃ i : Nat, i ≤ M ∧ i ≤ 30 ∧ v7 = .int .i64 (i : Int) ∧ sOn w wx p (lateS P i 0)
def lateRel2 (w : World) (p P i n : Nat) (v8 : Value) (wx : World) : Prop := ∃ j : Nat, j ≤ n ∧ v8 = .int .i64 (((n - j : Nat)) : Int) ∧ sOn w wx p (lateS P i j)
def lateRel3 (w : World) (p P i : Nat) (v9 : Value) (wx : World) : Prop := ∃ j : Nat, j ≤ P + 1 ∧ v9 = .int .i64 (j : Int) ∧ sOn w wx p (lateS P i j)

set_option maxHeartbeats 4000000 in
theorem sweepLate_walk (x0 : Int) (B : Option Addr) (k n d : Nat) (xs : List Int) (w : World) (hx0 : (Lit.int .i64 x0).wf = true)
    (rd : reads w B k n 1 (cellsK .i64 xs)) (hnd : n ≤ d) (hd : d ≤ maxLen) (hx : ∀ x ∈ xs, (Lit.int .i64 x).wf = true) :
    Calls Try.prog 5 #[.int .i64 x0, .slice B n d] w (yesPost w) := by
  have hxb : -9223372036854775808 ≤ x0 ∧ x0 ≤ 9223372036854775807 := by simpa [Lit.wf, IntKind.min, IntKind.max, IntKind.signed, IntKind.bits] using hx0
  obtain ⟨P, hP⟩ : ∃ P : Nat, x0 % 21 = (P : Int) := ⟨(x0 % 21).toNat, by have := Int.emod_nonneg x0 (show (21 : Int) ≠ 0 by omega); omega⟩
  have hP2 : P ≤ 20 := by have := Int.emod_lt_of_pos x0 (show (0 : Int) < 21 by omega); omega
  have HP := Lib.hid hP
  clear hP hx0
  unfold maxLen at hd
  have hxl : xs.length = n := by have := rd.1; simp [cellsK] at this; omega
  have HXL := Lib.hid hxl
  clear hxl
  have HX := Lib.hid (And.intro rd hx)
  clear rd hx
  go_enter Try.func5, Try.ntmps5
  go_wp2_with fail
  refine (bring_any x0 21 hxb.1 hxb.2 (by omega) (by omega) _).mono ?_; rintro e w' ⟨rfl, rfl⟩
  rw [HP.out]
  go_wp2_with (with_reducible refine wpList_build_v _ rfl 23 rfl _ (build_name _) ?_)
  refine (newS_any false false (P : Int) zeroName _ (by omega) (by omega) rfl neq_zero).mono ?_; intro e w1 hq; obtain ⟨p, rfl, h1⟩ := sOn.start (keepBut.refl [] w) hq; clear hq
  rw [show SS.new false false (P : Int) = lateS P 0 0 from (lateS_le (Nat.zero_le _)).symm] at h1
  have H1 := Lib.hid h1
  clear h1
  go_wp2_with fail
  go_loopw [7, 8] (fun v7 v8 wx => lateRel1 w p P n v7 wx) (fun v7 _ _ => n - (intOf v7).toNat)
  case atStart => exact ⟨0, by omega, by omega, rfl, H1.out⟩
  case round =>
    obtain ⟨i, hi, hi30, rfl, hs⟩ := hrel
    by_cases hlt : i < n ∧ i < 30
    · obtain ⟨hlt1, hlt2⟩ := hlt
      have hlt1' : (i : Int) < (n : Int) := by omega
      have hlt2' : (i : Int) < 30 := by omega
      obtain ⟨z, hz⟩ : ∃ z, xs[i]? = some z := ⟨xs[i]'(by have := HXL.out; omega), by simp⟩
      have hzb : -9223372036854775808 ≤ z ∧ z ≤ 9223372036854775807 := by
        have := HX.out.2 z (List.mem_of_getElem? hz)
        simpa [Lit.wf, IntKind.min, IntKind.max, IntKind.signed, IntKind.bits] using this
      obtain ⟨o, rfl, hkl, hcells⟩ := HX.out.1.2 (by omega)
      have hc0 := (hs.2.2.cell (p := ⟨k, o + i, none⟩) hkl (by simp)).trans (hcells i (.int .i64 z) (by simp [cellsK, hz]))
      obtain ⟨m, hm⟩ : ∃ m : Nat, z % ((P : Int) + 1) = (m : Int) := ⟨(z % ((P : Int) + 1)).toNat, by have := Int.emod_nonneg z (show ((P : Int) + 1) ≠ 0 by omega); omega⟩
      have hm2 : m ≤ P := by have := Int.emod_lt_of_pos z (show (0 : Int) < (P : Int) + 1 by omega); omega
      have HM := Lib.hid hm
      have HS := Lib.hid hs
      clear hm hs hz hcells
      go_wp2_with fail
      refine (bring_any z ((P : Int) + 1) hzb.1 hzb.2 (by omega) (by omega) _).mono ?_; rintro e w' ⟨rfl, rfl⟩
      rw [HM.out]
      go_upto_region 9 with fail
      go_loopw [8] (fun v8 wx => lateRel2 w p P i m v8 wx) (fun v8 _ => (intOf v8).toNat)
      case atStart => exact ⟨0, by omega, by simp, HS.out⟩
      case round =>
        obtain ⟨j, hj, rfl, hs⟩ := hrel
        have HS2 := Lib.hid hs
        clear hs
        by_cases hjm : j < m
        · have g0 : (0 : Int) < ((m - j : Nat) : Int) := by omega
          go_wp2_with fail
          refine (lawtook_any p _ 212 none 0 0 false 0 0 0 6 _ HS2.out.1 (lateS_ok P i j hP2 (by omega) (by omega)) (lateS_waits _ _ _) (by rw [lateS_ph _ _ _ (by omega)]; omega) (lateS_deed _ _ _)
            (by rw [lateS_late _ _ _ (by omega)]; exact lateS_ok _ _ _ hP2 (by omega) (by omega))).mono ?_; intro e w5 hq; obtain ⟨rfl, h5⟩ := HS2.out.step hq; clear hq
          rw [lateS_late _ _ _ (by omega)] at h5
          go_wp2_with fail
          refine (phase_any _ _ _ h5.1 (lateS_ok _ _ _ hP2 (by omega) (by omega)).p1).mono ?_; rintro e w6 ⟨rfl, rfl⟩
          rw [lateS_ph _ _ _ (by omega)]
          have HS5 := Lib.hid h5
          clear h5
          go_wp2_with fail
          go_roundw
          case rel => exact ⟨j + 1, by omega, by go_num, HS5.out⟩
          case measure => simp [intOf]; omega
        · obtain rfl : j = m := by omega
          go_wp2_with fail
          refine (lawtook_any p _ 0 none 0 0 false 0 1 1 6 _ HS2.out.1 (lateS_ok P i j hP2 (by omega) (by omega)) (lateS_waits _ _ _) (by rw [lateS_ph _ _ _ (by omega)]; omega) (lateS_deed _ _ _)
            (by rw [lateS_fine _ _ _ (by omega)]; exact lateS_ok _ _ _ hP2 (by omega) (by omega))).mono ?_; intro e w5 hq; obtain ⟨rfl, h5⟩ := HS2.out.step hq; clear hq
          rw [lateS_fine _ _ _ (by omega)] at h5
          go_wp2_with fail
          refine (seenS_any _ _ _ h5.1 (lateS_ok _ _ _ hP2 (by omega) (by omega)).p1).mono ?_; rintro e w6 ⟨rfl, rfl⟩
          rw [lateS_seen, show ((i + 1 : Nat) : Int) = (i : Int) + 1 by omega]
          have HS5 := Lib.hid h5
          clear h5
          go_wp2_with fail
          go_roundw
          case rel => exact ⟨i + 1, by omega, by omega, by go_num, HS5.out⟩
          case measure => simp [intOf]; omega
    · have hor : ¬ (i : Int) < (n : Int) ∨ ((i : Int) < (n : Int) ∧ ¬ (i : Int) < 30) := by omega
      have HS := Lib.hid hs
      clear hs
      rcases hor with hor | ⟨hor, hor2⟩
      all_goals
        go_upto_region 16 with fail
        go_loopw [9] (fun v9 wx => lateRel3 w p P i v9 wx) (fun v9 _ => P + 1 - (intOf v9).toNat)
        case atStart => exact ⟨0, by omega, rfl, HS.out⟩
        case round =>
          obtain ⟨j, hj, rfl, hs⟩ := hrel
          have HS2 := Lib.hid hs
          clear hs
          by_cases hjm : j ≤ P
          · have g0 : (j : Int) ≤ (P : Int) := by omega
            go_wp2_with fail
            refine (phase_any _ _ _ HS2.out.1 (lateS_ok _ _ _ hP2 (by omega) (by omega)).p1).mono ?_; rintro e w6 ⟨rfl, rfl⟩
            rw [lateS_ph _ _ _ (by omega)]
            go_wp2_with fail
            refine (why_any _ _ _ HS2.out.1 (lateS_ok _ _ _ hP2 (by omega) (by omega)).p1).mono ?_; rintro e w6 ⟨rfl, rfl⟩
            rw [lateS_why _ _ _ (by omega)]
            go_wp2_with fail
            refine (lawtook_any p _ 212 none 0 0 false 0 0 0 6 _ HS2.out.1 (lateS_ok P i j hP2 (by omega) (by omega)) (lateS_waits _ _ _) (by rw [lateS_ph _ _ _ (by omega)]; omega) (lateS_deed _ _ _)
              (by rw [lateS_late _ _ _ (by omega)]; exact lateS_ok _ _ _ hP2 (by omega) (by omega))).mono ?_; intro e w5 hq; obtain ⟨rfl, h5⟩ := HS2.out.step hq; clear hq
            rw [lateS_late _ _ _ (by omega)] at h5
            have HS5 := Lib.hid h5
            clear h5
            go_wp2_with fail
            go_roundw
            case rel => exact ⟨j + 1, by omega, by go_num, HS5.out⟩
            case measure => simp [intOf]; omega
          · obtain rfl : j = P + 1 := by omega
            have g0 : ¬ ((P + 1 : Nat) : Int) ≤ (P : Int) := by omega
            have hs := HS2.out
            clear HS2
            rw [lateS_end] at hs
            have hok : SS.ok ⟨5, false, P, false, i, 0, ((P + 1 : Nat) : Int), 212⟩ := by have := lateS_ok P i (P + 1) hP2 (by omega) (by omega); rwa [lateS_end] at this
            have HS := Lib.hid (And.intro hs hok)
            clear hs hok
            go_wp2_with fail
            refine (phase_any _ _ _ HS.out.1.1 HS.out.2.p1).mono ?_; rintro e w6 ⟨rfl, rfl⟩
            go_wp2_with fail
            refine (why_any _ _ _ HS.out.1.1 HS.out.2.p1).mono ?_; rintro e w6 ⟨rfl, rfl⟩
            go_wp2_with fail
            refine (lawnext_any p _ _ 0 170 _ HS.out.1.1 HS.out.2 (SS.next_no (by simp))).mono ?_; intro e w7 hq; obtain ⟨rfl, h7⟩ := HS.out.1.step hq; clear hq
            have HK := Lib.hid h7.2.2
            clear h7
            go_wp2_with fail
            refine (works_any _).mono ?_; rintro e w8 ⟨rfl, hkw⟩
            have HKW := Lib.hid (HK.out.then hkw (by simp))
            clear hkw
            go_wp2_with fail
            go_ret
            exact ⟨rfl, HKW.out⟩
end Go.Proofs.Ytoejfgjdmcamaaa
