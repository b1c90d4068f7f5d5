/-
  TABLEAGAIN: the law's walk.
-/
import Derived.Test.YtmlmhnhilemjhaaDoorTBR
import Derived.Test.YtmlmhnhilemjhaaDoorEqB
namespace Go.Proofs.YtmlmhnhilemjhaaDoor
open Go.RowKit
set_option linter.unusedVariables false
set_option maxRecDepth 100000
set_option linter.unusedSimpArgs false

set_option maxHeartbeats 8000000 in
theorem tableAgain_law (A : Option Addr) (g c : Nat) (b0 : List UInt8) (w : World) (hs : seen w A g b0) (hlc : b0.length ≤ c) (hcm : c ≤ maxLen) (hsz : sizesAt w) :
    Calls Tryd.prog 5 #[.slice A b0.length c] w fun e w' => e = .returned (.bool true) ∧ keepBut [] w w' := by
  unfold maxLen at hcm
  obtain ⟨b, hL⟩ : ∃ b, b = b0.take 4000 := ⟨_, rfl⟩
  have sb : seen w A g b := by rw [hL]; exact hs.take 4000
  have b3 : b.length ≤ 4000 := by rw [hL, List.length_take]; omega
  have bc : b.length ≤ c := by rw [hL, List.length_take]; omega
  have e1 : (if 4000 < (b0.length : Int) then 4000 else (b0.length : Int)).toNat = b.length := by rw [hL, List.length_take]; split <;> omega
  have E1 := Lib.hid e1
  have H0 := Lib.hid (And.intro sb (And.intro b3 (And.intro bc hsz)))
  have HWK : Hid (∀ W, keepBut [] w W → Calls Tryd.prog 6 #[] W fun e w' => e = .returned (.bool true) ∧ keepBut [] W w') := Lib.hid (fun W k => works_any W (hsz.keep k (by simp)))
  have hbb : (b == b) = true := by simp
  clear e1 hL hs sb hsz b3
  go_enter Tryd.func5, Tryd.ntmps5
  go_upto_region 2 with fail
  simp only [E1.out]
  generalize (if 4000 < (b0.length : Int) then 4000 else (b0.length : Int)) = zz
  have HO := Lib.hid (topen_any A g c b w H0.out.1 H0.out.2.2.1 (by have := H0.out.2.1; omega) H0.out.2.2.2)
  unfold openPost at HO
  have HINV := Lib.hid (And.intro (@openP_inv b) (openP_fit b))
  generalize openP b = O at HO HINV
  have HC : Hid (∀ W, keepBut [] w W → seen W A g b) := Lib.hid (fun W k => H0.out.1.keep k (by simp))
  go_upto_region 3 with (go_at_call 15; refine HO.out.mono ?_; rintro e w2 ⟨k2, h2⟩; rcases h2 with ⟨hE, rfl⟩ | ⟨hE, hf, rfl⟩ | ⟨hE, hf, p, s, rfl, ht, hp⟩)
  · obtain ⟨E, hEE⟩ : ∃ E, O.2.2 = E := ⟨_, rfl⟩
    rw [hEE] at hE
    try rw [hEE]
    have hEb : (E != 0) = true := by simp [hE]
    have K2 := Lib.hid k2
    clear hE hEE k2
    go_wp2_with (go_at_call 6; refine (HWK.out _ K2.out).mono ?_; rintro e w3 ⟨rfl, k3⟩; have K3 := Lib.hid (K2.out.then k3 (by simp)); clear k3)
    go_ret
    exact ⟨rfl, K3.out⟩
  · have K2 := Lib.hid k2
    clear hE hf k2
    go_wp2_with (go_at_call 6; refine (HWK.out _ K2.out).mono ?_; rintro e w3 ⟨rfl, k3⟩; have K3 := Lib.hid (K2.out.then k3 (by simp)); clear k3)
    go_ret
    exact ⟨rfl, K3.out⟩
  · have hB := HINV.out.1 hE hf
    have HT := Lib.hid (tbytes_any p s w2 ht (by rw [hp]; exact HINV.out.2))
    rw [hp, hB] at HT
    have K2 := Lib.hid k2
    clear hE hf k2 ht hp hB
    go_wp2_with (first
      | (go_at_call 13; refine HT.out.mono ?_; rintro e w3 ⟨v, G, rfl, hv, hn, k3⟩; obtain ⟨A5, c5, g5, rfl, _, _, sn5, _⟩ := hv; have K3 := Lib.hid (And.intro (K2.out.then k3 (by simp)) sn5); clear k3 hn sn5)
      | (go_at_call 12; (with_reducible refine (eqBytes_any A5 A g5 g c5 c b b _ K3.out.2 (HC.out _ K3.out.1)).mono ?_); rintro e w4 ⟨rfl, rfl⟩; rw [hbb])
      | (go_at_call 6; refine (HWK.out _ K3.out.1).mono ?_; rintro e w5 ⟨rfl, k5⟩; have K5 := Lib.hid (K3.out.1.then k5 (by simp)); clear k5))
    go_ret
    exact ⟨rfl, K5.out⟩
end Go.Proofs.YtmlmhnhilemjhaaDoor
