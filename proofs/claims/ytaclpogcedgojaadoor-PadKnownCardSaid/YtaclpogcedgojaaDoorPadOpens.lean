/-
  PadOpens: Open answers as the chapter says.
-/
import Derived.Test.YtaclpogcedgojaaDoorPadPads
namespace Go.Proofs.YtaclpogcedgojaaDoor
open Go.RowKit
set_option linter.unusedVariables false

set_option maxRecDepth 100000 in
set_option maxHeartbeats 2000000 in
theorem padOpens_law (A : Option Addr) (g c : Nat) (l0 : List UInt8) (w : World) (hs : seen w A g l0) (hlc : l0.length ≤ c) (hcm : c ≤ maxLen) (h : classesAt w) :
    Calls Tryd.prog 4 #[.slice A l0.length c] w (yesPost w) := by
  have hcm' := hcm
  unfold maxLen at hcm
  obtain ⟨l, hL⟩ : ∃ l, l = l0.take 400 := ⟨_, rfl⟩
  have sl : seen w A g l := by rw [hL]; exact hs.take 400
  have l3 : l.length ≤ 400 := by rw [hL, List.length_take]; omega
  have lc : l.length ≤ c := by rw [hL, List.length_take]; omega
  have e1 : (if 400 < (l0.length : Int) then 400 else (l0.length : Int)).toNat = l.length := by rw [hL, List.length_take]; split <;> omega
  have E1 := Lib.hid e1
  have H0 := Lib.hid h
  clear e1 hL hs
  obtain ⟨P, t, x, hPx⟩ : ∃ P t x, openP l = (P, t, x) := ⟨_, _, _, rfl⟩
  have HP := Lib.hid hPx
  clear hPx
  go_enter Tryd.func4, Tryd.ntmps4
  go_upto_region 2 with fail
  simp only [E1.out]
  generalize (if 400 < (l0.length : Int) then 400 else (l0.length : Int)) = zz
  go_wp2_with fail
  refine (copyBytes_n _ g _ l.length l _ rfl sl (by omega)).mono ?_; rintro e w1 ⟨v1, rfl, ho1, hf1, k1⟩
  have h1 := h.keep k1
  have s1 := sl.keep k1 (by simp)
  obtain ⟨A1, c1, g1, rfl, hc1, hm1, t1, _⟩ := ho1.seen
  have hsc1 := scrib_of_owns ho1
  have hlt1 : ∀ y ∈ homes (.slice A1 l.length c1), y < w1.heap.size := by obtain ⟨_, _, _, _, _, hl, _⟩ := ho1.form; exact hl
  clear ho1 sl h
  go_wp2_with fail
  refine (open_n _ g1 _ l.length l _ rfl h1 t1 hc1 hm1 (by omega)).mono ?_; rintro e w2 ⟨v2, rfl, ho2, hf2, k2⟩
  rw [HP.out] at ho2 ⊢
  have h2 := h1.keep k2
  have s2 := s1.keep k2 (by simp)
  have q2 := t1.keep k2 (by simp)
  have kk2 := k1.then k2 (by simp)
  obtain ⟨A2, c2, g2, rfl, hc2, hm2, t2, hg2⟩ := ho2.seen
  simp only at t2 ⊢
  clear h1 s1 t1
  go_wp2_with fail
  refine (refOpen_n _ g _ l.length l _ rfl s2 lc hcm' (by omega)).mono ?_; rintro e w3 ⟨v3, rfl, ho3, hf3, k3⟩
  rw [HP.out] at ho3 ⊢
  have h3 := h2.keep k3
  have s3 := s2.keep k3 (by simp)
  have q3 := q2.keep k3 (by simp)
  have kk3 := kk2.then k3 (by simp)
  have k13 := k2.then k3 (by simp)
  have u2 := t2.keep k3 (by simp)
  obtain ⟨A3, c3, g3, rfl, hc3, hm3, t3, hg3⟩ := ho3.seen
  simp only at t3 ⊢
  have hsc3 := hsc1.keep (c := c1) k13 (by simp)
  have n2 : ∀ y ∈ homes (.slice A2 P.length c2), ∀ z ∈ homes (.slice A1 l.length c1), y ≠ z := fun y hy z hz => by have := hf2 y hy; have := hlt1 z hz; omega
  have n3 : ∀ y ∈ homes (.slice A3 P.length c3), ∀ z ∈ homes (.slice A1 l.length c1), y ≠ z := fun y hy z hz => by have := hf3 y hy; have := hlt1 z hz; have := k2.size; omega
  have f1 := hf1
  have HB := Lib.hid (And.intro hsc3 (And.intro n2 (And.intro n3 (And.intro f1 (And.intro hg2 hg3)))))
  clear h2 s2 t2 q2 ho2 ho3 hf2 hf3 k1 k2 k3 kk2 k13 hsc1 hsc3 n2 n3 f1 hf1 hg2 hg3 hlt1 lc hcm'
  go_wp2_with fail
  refine (eqBytes_n _ _ g2 g3 _ _ P.length P.length P P _ rfl rfl u2 t3).mono ?_; rintro e w' ⟨rfl, rfl⟩
  rw [show (P == P) = true by simp]
  have hxx : (x == x) = true := by simp
  have htt : (t == t) = true := by simp
  go_wp2_with fail
  refine (eqBytes_n _ _ g1 g _ _ l.length l.length l l _ rfl rfl q3 s3).mono ?_; rintro e w' ⟨rfl, rfl⟩
  rw [show (l == l) = true by simp]
  go_wp2_with fail
  go_loopw [10] (fun i wr => scribRel w3 A1 l.length c1 i wr) (fun i _ => l.length - (intOf i).toNat)
  case atStart => exact ⟨0, rfl, by omega, keepBut.refl _ _, HB.out.1⟩
  case round =>
    obtain ⟨k, rfl, hk, hkb, hsc1⟩ := hrel
    by_cases hkn : k < l.length
    · obtain ⟨g0, rfl, cur, hrow, hcur⟩ := hsc1 (by omega)
      obtain ⟨z, hz⟩ := hcur k hkn
      have hc0 : wr.cell? ⟨g0, k, none⟩ = some (.int .u8 z) := by rw [hrow.cell]; exact hz
      have hf0 := hrow.free k
      have hbr : bytesRow wr g0 l.length := ⟨cur, hrow, hcur⟩
      clear hrow hcur hz hsc1
      go_wp2
      go_roundw
      case rel => exact ⟨k + 1, by go_num, by omega, hkb.setCell _ _ (.inl (by simp [homes_some])), fun _ => ⟨g0, rfl, hbr.set _ _⟩⟩
      case measure => simp [intOf]; omega
    · obtain rfl : k = l.length := by omega
      have a2 := seen_beside u2 hkb HB.out.2.2.2.2.1 HB.out.2.1
      have a3 := seen_beside t3 hkb HB.out.2.2.2.2.2 HB.out.2.2.1
      have kk := kk3.then hkb (fun y hy => .inr (HB.out.2.2.2.1 y hy))
      clear u2 t3 hkb hsc1 h3 kk3 s3 q3
      go_wp2_with fail
      refine (eqBytes_n _ _ g2 g3 _ _ P.length P.length P P _ rfl rfl a2 a3).mono ?_; rintro e w' ⟨rfl, rfl⟩
      rw [show (P == P) = true by simp]
      go_wp2_with fail
      refine (works_any _ (H0.out.keep kk)).mono ?_; rintro e w5 ⟨rfl, k5⟩
      go_wp2_with fail
      go_ret
      exact ⟨rfl, kk.then k5 (by simp)⟩
end Go.Proofs.YtaclpogcedgojaaDoor
