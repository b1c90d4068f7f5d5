/-
  PadBack, PadAgain: what was padded is opened as it was; what can be opened has just these bytes.
-/
import Derived.Test.YtaclpogcedgojaaDoorPadPure
namespace Go.Proofs.YtaclpogcedgojaaDoor
open Go.RowKit
set_option linter.unusedVariables false

/-- what the table has, and what the walk left -/
theorem seen_homes {w : World} {v : Value} {l : List UInt8} (h : owns w 5 1 v l.length (l.map bv)) : ∃ A c g, v = .slice A l.length c ∧ l.length ≤ c ∧ c ≤ maxLen ∧ seen w A g l := by
  obtain ⟨A, c, g, h1, h2, h3, h4, _⟩ := h.seen
  exact ⟨A, c, g, h1, h2, h3, h4⟩

set_option maxRecDepth 100000 in
set_option maxHeartbeats 2000000 in
theorem padBack_law (A : Option Addr) (g c : Nat) (l0 : List UInt8) (tomb : Bool) (w : World) (hs : seen w A g l0) (hlc : l0.length ≤ c) (hcm : c ≤ maxLen) (h : classesAt w) :
    Calls Tryd.prog 5 #[.slice A l0.length c, .bool tomb] w (yesPost w) := by
  unfold maxLen at hcm
  obtain ⟨l, hL⟩ : ∃ l, l = l0.take 250 := ⟨_, rfl⟩
  have sl : seen w A g l := by rw [hL]; exact hs.take 250
  have l3 : l.length ≤ 250 := by rw [hL, List.length_take]; omega
  have e1 : (if 250 < (l0.length : Int) then 250 else (l0.length : Int)).toNat = l.length := by rw [hL, List.length_take]; split <;> omega
  have E1 := Lib.hid e1
  clear e1 hL hs
  go_enter Tryd.func5, Tryd.ntmps5
  go_wp2_with fail
  refine (works_any _ h).mono ?_; rintro e w1 ⟨rfl, k1⟩
  have h1 := h.keep k1
  have s1 := sl.keep k1 (by simp)
  clear h sl
  cases tomb with
  | true =>
    go_upto_region 4 with fail
    simp only [E1.out]
    generalize (if 250 < (l0.length : Int) then 250 else (l0.length : Int)) = zz
    go_wp2_with fail
    refine (pad_n _ g _ 0 [] true _ rfl h1 (seen.nil _ _ _) (by omega)).mono ?_; rintro e w2 ⟨v2, rfl, ho2, hf2, hk2⟩
    rw [padP_grave] at ho2 ⊢
    have k2 := k1.then hk2 (by simp)
    have h2 := h1.keep hk2
    obtain ⟨A2, c2, g2, rfl, hc2, hm2, s2⟩ := seen_homes ho2
    rw [show (graveBytes 16).length = 16 from rfl] at hc2 ⊢
    clear ho2 hf2 hk2 h1 k1
    go_wp2_with fail
    refine (open_n _ g2 _ 16 (graveBytes 16) _ rfl h2 s2 hc2 hm2 (by omega)).mono ?_; rintro e w3 ⟨v3, rfl, ho3, hf3, hk3⟩
    rw [ex_o1] at ho3 ⊢
    have k3 := k2.then hk3 (by simp)
    have h3 := h2.keep hk3
    obtain ⟨A3, c3, g3, rfl, hc3, hm3, s3⟩ := seen_homes ho3
    clear ho3 hf3 hk3 h2 k2 s2 hm2 hm3
    go_wp2_with fail
    refine (class_any _ _ h3).mono ?_; rintro e w' ⟨rfl, rfl⟩; rw [show classP 0 = 16 from by decide]
    go_wp2_with fail
    refine (eqBytes_n _ _ g3 g _ _ 0 0 [] [] _ rfl rfl (seen.nil _ _ _) (seen.nil _ _ _)).mono ?_; rintro e w4 ⟨rfl, rfl⟩
    rw [show (([] : List UInt8) == []) = true from rfl]
    go_wp2_with fail
    go_ret
    exact ⟨rfl, k3⟩
  | false =>
    obtain ⟨S, hS, hS1, hS2, hS3, hP, hPl⟩ := padP_value l l3
    have hO := open_pad l S l3 hS hS3
    have HS := Lib.hid hS
    have HO := Lib.hid hO
    have HPL := Lib.hid hPl
    have HP := Lib.hid hP
    clear hS hO hPl hP
    go_upto_region 4 with fail
    simp only [E1.out]
    generalize (if 250 < (l0.length : Int) then 250 else (l0.length : Int)) = zz
    go_wp2_with fail
    refine (pad_n _ g _ l.length l false _ rfl h1 s1 (by omega)).mono ?_; rintro e w2 ⟨v2, rfl, ho2, hf2, hk2⟩
    rw [HP.out] at ho2 ⊢
    have k2 := k1.then hk2 (by simp)
    have h2 := h1.keep hk2
    have sl2 := s1.keep hk2 (by simp)
    obtain ⟨A2, c2, g2, rfl, hc2, hm2, s2⟩ := seen_homes ho2
    simp only [HPL.out] at hc2 ⊢
    clear ho2 hf2 hk2 h1 k1 s1
    go_wp2_with fail
    refine (open_n _ g2 _ S (padBytes l S) _ HPL.out h2 s2 hc2 hm2 (by omega)).mono ?_; rintro e w3 ⟨v3, rfl, ho3, hf3, hk3⟩
    rw [HO.out] at ho3 ⊢
    have k3 := k2.then hk3 (by simp)
    have h3 := h2.keep hk3
    have sl3 := sl2.keep hk3 (by simp)
    obtain ⟨A3, c3, g3, rfl, hc3, hm3, s3⟩ := seen_homes ho3
    clear ho3 hf3 hk3 h2 k2 s2 sl2 hm2 hm3
    go_wp2_with fail
    refine (class_any _ _ h3).mono ?_; rintro e w' ⟨rfl, rfl⟩; rw [HS.out]
    go_wp2_with fail
    refine (eqBytes_n _ _ g3 g _ _ l.length l.length l l _ rfl rfl s3 sl3).mono ?_; rintro e w4 ⟨rfl, rfl⟩
    rw [show (l == l) = true by simp]
    go_wp2_with fail
    go_ret
    exact ⟨rfl, k3⟩

set_option maxRecDepth 100000 in
set_option maxHeartbeats 2000000 in
theorem padAgain_law (A : Option Addr) (g c : Nat) (b0 : List UInt8) (w : World) (hs : seen w A g b0) (hlc : b0.length ≤ c) (hcm : c ≤ maxLen) (h : classesAt w) :
    Calls Tryd.prog 7 #[.slice A b0.length c] w (yesPost w) := by
  have hcm' := hcm
  unfold maxLen at hcm
  obtain ⟨b, hL⟩ : ∃ b, b = b0.take 400 := ⟨_, rfl⟩
  have sb : seen w A g b := by rw [hL]; exact hs.take 400
  have b3 : b.length ≤ 400 := by rw [hL, List.length_take]; omega
  have bc : b.length ≤ c := by rw [hL, List.length_take]; omega
  have e1 : (if 400 < (b0.length : Int) then 400 else (b0.length : Int)).toNat = b.length := by rw [hL, List.length_take]; split <;> omega
  have E1 := Lib.hid e1
  clear e1 hL hs
  obtain ⟨v, t, x, hO⟩ : ∃ v t x, openP b = (v, t, x) := ⟨_, _, _, rfl⟩
  have hA := open_again b v t x hO
  have HO := Lib.hid hO
  clear hO
  go_enter Tryd.func7, Tryd.ntmps7
  go_upto_region 2 with fail
  simp only [E1.out]
  generalize (if 400 < (b0.length : Int) then 400 else (b0.length : Int)) = zz
  go_wp2_with fail
  refine (open_n _ g _ b.length b _ rfl h sb bc hcm' (by omega)).mono ?_; rintro e w1 ⟨v1, rfl, ho1, hf1, k1⟩
  rw [HO.out] at ho1 ⊢
  have h1 := h.keep k1
  have s1 := sb.keep k1 (by simp)
  obtain ⟨A1, c1, g1, rfl, hc1, hm1, t1⟩ := seen_homes ho1
  clear ho1 hf1 h sb hcm' hm1
  rcases hA with ⟨rfl, rfl, rfl⟩ | ⟨rfl, hP⟩
  · go_wp2_with fail
    refine (works_any _ h1).mono ?_; rintro e w2 ⟨rfl, k2⟩
    go_wp2_with fail
    go_ret
    exact ⟨rfl, k1.then k2 (by simp)⟩
  · have hvl : v.length ≤ 250 ∨ True := .inr trivial
    have HP := Lib.hid hP
    have hv : v.length ≤ b.length := by
      have e := HO.out
      have : v = (openP b).1 := by rw [e]
      rw [this]; unfold openP
      repeat' split
      all_goals simp
      all_goals omega
    clear hP
    go_wp2_with fail
    refine (pad_n _ g1 _ v.length v t _ rfl h1 t1 (by omega)).mono ?_; rintro e w2 ⟨v2, rfl, ho2, hf2, hk2⟩
    rw [HP.out] at ho2 ⊢
    have k2 := k1.then hk2 (by simp)
    have h2 := h1.keep hk2
    have s2 := s1.keep hk2 (by simp)
    obtain ⟨A2, c2, g2, rfl, hc2, hm2, t2⟩ := seen_homes ho2
    clear ho2 hf2 hk2 h1 k1 s1 hm2
    go_wp2_with fail
    refine (eqBytes_n _ _ g g2 _ _ b.length b.length b b _ rfl rfl s2 t2).mono ?_; rintro e w4 ⟨rfl, rfl⟩
    rw [show (b == b) = true by simp]
    go_wp2_with fail
    refine (works_any _ h2).mono ?_; rintro e w5 ⟨rfl, k5⟩
    go_wp2_with fail
    go_ret
    exact ⟨rfl, k2.then k5 (by simp)⟩
end Go.Proofs.YtaclpogcedgojaaDoor
