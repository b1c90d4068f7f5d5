/-
  RC, 7: the document's votes.
-/
import Derived.Test.YthfdkonhjpdflaaGreatDoorRC6
import Derived.Test.YthfdkonhjpdflaaGreatDoorPkC
namespace Go.Proofs.YthfdkonhjpdflaaGreatDoor
open Go.RowKit
set_option linter.unusedVariables false
set_option maxRecDepth 100000
set_option linter.unusedSimpArgs false

set_option maxHeartbeats 8000000 in
theorem votesD (F : List Nat) (l : List VT) (v : Value) (w : World) (h : votesV w F v l) :
    Calls Tryz.prog 135 #[v] w fun e w' => e = .returned (.bool (vtsOk l)) ∧ keepBut [] w w' := by
  obtain ⟨A, c, gA, TA, rfl, _, hc, _⟩ := id h
  obtain ⟨L, hL⟩ : ∃ L, l.length = L := ⟨_, rfl⟩
  have hmx : L ≤ 9223372036854775807 := by unfold maxLen at hc; omega
  have HS0 := Lib.hid (show vtsOk l = (decide (l.length ≤ 8) && vtsB (l.drop 0)) from rfl)
  generalize vtsOk l = ok at *
  have HA := Lib.hid h
  rw [hL] at HA HS0 ⊢
  have HL := Lib.hid hL
  clear h hL hc
  go_enter Tryz.func135, Tryz.ntmps135
  go_upto_region 2 with fail
  go_loopw [3] (fun v2 wx => ∃ i : Nat, i ≤ L ∧ v2 = .int .i64 (i : Int) ∧ ok = (decide (L ≤ 8) && vtsB (l.drop i)) ∧ keepBut [] w wx) (fun v2 _ => L - (intOf v2).toNat)
  case atStart => exact ⟨0, by omega, rfl, HS0.out, keepBut.refl _ _⟩
  case round =>
    obtain ⟨i, hi, rfl, ht, hk⟩ := hrel
    by_cases hlt : i < L
    · have hlt' : (i : Int) < (L : Int) := by omega
      obtain ⟨a, ha⟩ : ∃ a, l[i]? = some a := ⟨_, List.getElem?_eq_getElem (by rw [HL.out]; omega)⟩
      obtain ⟨g, o, cv, rfl, hgl, _, hcv, x0, x1, x2, x3⟩ := (HA.out.keep hk (by simp)).at ha
      have hs := ht.trans (congrArg (decide (L ≤ 8) && ·) (vtsB_step ha))
      have HR := Lib.hid (And.intro hs (And.intro hk hcv))
      clear ht hk ha hcv hs
      obtain ⟨ab, an, af, al⟩ := a
      dsimp only at x0 x1 x2 x3
      obtain ⟨CA, cc, cg, rfl, _⟩ := id HR.out.2.2
      dsimp only at x3
      have HC := Lib.hid (checkConfD F ⟨an, af, al⟩ _ wr HR.out.2.2)
      have HP := Lib.hid (withinR ab 1 9007199254740991 wr)
      have HS1 := Lib.hid (show ok = (decide (L ≤ 8) && ((inP ab 1 9007199254740991 && CF.ok ⟨an, af, al⟩) && vtsB (l.drop (i + 1)))) from HR.out.1)
      have HK := Lib.hid HR.out.2.1
      generalize inP ab 1 9007199254740991 = b0 at *
      generalize CF.ok ⟨an, af, al⟩ = b1 at *
      clear HR
      go_upto_region 4 with fail
      cases b0 <;> cases b1
      all_goals simp only [toldP, Bool.false_eq_true, if_false, if_true] at HC
      · go_wp2_with (first | (go_at_call 67; refine HP.out.mono ?_; rintro e w' ⟨rfl, rfl⟩))
        have HF := Lib.hid (show ok = false by rw [HS1.out]; simp)
        go_ret
        exact ⟨by rw [HF.out]; rfl, HK.out⟩
      · go_wp2_with (first | (go_at_call 67; refine HP.out.mono ?_; rintro e w' ⟨rfl, rfl⟩))
        have HF := Lib.hid (show ok = false by rw [HS1.out]; simp)
        go_ret
        exact ⟨by rw [HF.out]; rfl, HK.out⟩
      · go_wp2_with (first | (go_at_call 67; refine HP.out.mono ?_; rintro e w' ⟨rfl, rfl⟩) | (go_at_call 83; refine HC.out.mono ?_; rintro e w' ⟨rfl, k3⟩; have HK3 := Lib.hid (HK.out.then k3 (by simp)); clear k3 x0 x1 x2 x3))
        have HF := Lib.hid (show ok = false by rw [HS1.out]; simp)
        go_ret
        exact ⟨by rw [HF.out]; rfl, HK3.out⟩
      · go_wp2_with (first | (go_at_call 67; refine HP.out.mono ?_; rintro e w' ⟨rfl, rfl⟩) | (go_at_call 83; refine HC.out.mono ?_; rintro e w' ⟨rfl, k3⟩; have HK3 := Lib.hid (HK.out.then k3 (by simp)); clear k3 x0 x1 x2 x3))
        go_roundw
        case rel => exact ⟨i + 1, by omega, by go_num, by rw [HS1.out]; simp, HK3.out⟩
        case measure => simp [intOf]; omega
    · obtain rfl : i = L := by omega
      have hv : ok = decide (i ≤ 8) := by rw [ht, ← HL.out, List.drop_length]; simp [vtsB]
      have HV := Lib.hid (And.intro hv hk)
      clear hv hk ht
      by_cases h8 : (i : Int) ≤ 8
      · have h8d := decide_eq_true h8
        have H8 := Lib.hid (show decide (i ≤ 8) = true by simp; omega)
        go_wp2_with fail
        go_ret
        exact ⟨by rw [HV.out.1, H8.out]; rfl, HV.out.2⟩
      · have h8d := decide_eq_false h8
        have H8 := Lib.hid (show decide (i ≤ 8) = false by simp; omega)
        go_wp2_with fail
        go_ret
        exact ⟨by rw [HV.out.1, H8.out]; rfl, HV.out.2⟩
end Go.Proofs.YthfdkonhjpdflaaGreatDoor
