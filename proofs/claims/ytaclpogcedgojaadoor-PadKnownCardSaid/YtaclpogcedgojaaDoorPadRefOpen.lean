/-
  PAD: the document's Open.
-/
import Derived.Test.YtaclpogcedgojaaDoorPadRef
import Derived.Deep.RegionHeld3
namespace Go.Proofs.YtaclpogcedgojaaDoor
open Go.RowKit
set_option linter.unusedVariables false

def refOpenP (b : List UInt8) : List UInt8 × Bool × Int :=
  if b.length < 16 ∨ 1 < (b.getD 0 0).toNat then ([], false, 4)
  else if b.length < lenOf b + 3 then ([], false, 4)
  else if padP ((b.drop 3).take (lenOf b)) ((b.getD 0 0).toNat == 1) = (b, 0) then ((b.drop 3).take (lenOf b), (b.getD 0 0).toNat == 1, 0)
  else ([], false, 4)

theorem openP_opened {b v : List UInt8} {t : Bool} (h : openP b = (v, t, 0)) : 16 ≤ b.length ∧ lenOf b + 3 ≤ b.length ∧ (b.getD 0 0).toNat ≤ 1 ∧ v = (b.drop 3).take (lenOf b) ∧ t = ((b.getD 0 0).toNat == 1) := by
  unfold openP at h
  by_cases h3 : b.length < 3
  · rw [if_pos h3] at h; simp at h
  rw [if_neg h3] at h
  by_cases hc : classP (lenOf b : Int) ≠ (b.length : Int) ∨ allZero (b.drop (3 + lenOf b)) = false
  · rw [if_pos hc] at h; simp at h
  rw [if_neg hc] at h
  have hc1 : classP (lenOf b : Int) = (b.length : Int) := by
    by_cases hx : classP (lenOf b : Int) = (b.length : Int)
    · exact hx
    · exact absurd (.inl hx) hc
  have hb : 16 ≤ b.length ∧ lenOf b + 3 ≤ b.length := by
    rcases classP_cases (lenOf b) with ⟨_, h2⟩ | ⟨S, h1, h2, h4, h5, h6⟩
    · omega
    · omega
  by_cases h0 : b.getD 0 0 = 0
  · rw [if_pos h0] at h
    simp only [Prod.mk.injEq] at h
    refine ⟨hb.1, hb.2, by rw [h0]; decide, h.1.symm, by rw [h0]; exact h.2.1.symm⟩
  rw [if_neg h0] at h
  by_cases h1 : b.getD 0 0 = 1 ∧ lenOf b = 0
  · rw [if_pos h1] at h
    simp only [Prod.mk.injEq] at h
    refine ⟨hb.1, hb.2, by rw [h1.1]; decide, by rw [h1.2]; exact h.1.symm, by rw [h1.1]; exact h.2.1.symm⟩
  rw [if_neg h1] at h
  simp at h

theorem padP_opens {b v : List UInt8} {t : Bool} (h : padP v t = (b, 0)) : openP b = (v, t, 0) := by
  cases t with
  | true =>
    have hv : v = [] := by
      by_cases hx : v = []
      · exact hx
      · unfold padP at h; rw [if_pos ⟨rfl, hx⟩] at h; simp at h
    subst hv
    rw [padP_grave] at h
    simp only [Prod.mk.injEq] at h
    rw [← h.1]
    exact ex_o1
  | false =>
    by_cases hl : v.length ≤ 250
    · obtain ⟨S, hS, hS1, hS2, hS3, hP, hPl⟩ := padP_value v hl
      rw [hP] at h
      simp only [Prod.mk.injEq] at h
      rw [← h.1]
      exact open_pad v S hl hS hS3
    · unfold padP at h
      rcases classP_cases v.length with ⟨_, h2⟩ | ⟨S, h1, _⟩
      · rw [if_neg (by simp), if_pos h2] at h; simp at h
      · omega

theorem refOpenP_eq (b : List UInt8) : refOpenP b = openP b := by
  obtain ⟨v, t, x, hO⟩ : ∃ v t x, openP b = (v, t, x) := ⟨_, _, _, rfl⟩
  rcases open_again b v t x hO with ⟨rfl, rfl, rfl⟩ | ⟨rfl, hP⟩
  · rw [hO]
    unfold refOpenP
    split
    · rfl
    · split
      · rfl
      · split
        · rename_i hp
          rw [padP_opens hp] at hO
          simp at hO
        · rfl
  · obtain ⟨h1, h2, h3, h4, h5⟩ := openP_opened hO
    rw [hO]
    unfold refOpenP
    rw [if_neg (by omega), if_neg (by omega), ← h4, ← h5, if_pos hP]

theorem refPad_n (A : Option Addr) (g c n : Nat) (l : List UInt8) (tomb : Bool) (w : World) (hn : l.length = n) (hs : seen w A g l) (hb : n ≤ 140737488355328) :
    Calls Tryd.prog 12 #[.slice A n c, .bool tomb] w (padPost (padP l tomb) w) := by
  subst hn; exact refPad_any A g c l tomb w hs hb

set_option maxRecDepth 100000 in
set_option maxHeartbeats 2000000 in
theorem refOpen_any (A : Option Addr) (g c : Nat) (b : List UInt8) (w : World) (hs : seen w A g b) (hc : b.length ≤ c) (hcm : c ≤ maxLen) (hb : b.length ≤ 140737488355328) :
    Calls Tryd.prog 18 #[.slice A b.length c] w (openPost (openP b) w) := by
  rw [← refOpenP_eq]
  unfold maxLen at hcm
  by_cases h16 : b.length < 16
  · have HP := Lib.hid (show refOpenP b = ([], false, 4) by unfold refOpenP; rw [if_pos (.inl h16)])
    go_enter Tryd.func18, Tryd.ntmps18
    go_wp2_with fail
    go_ret3
    rw [HP.out]
    exact ⟨_, rfl, owns.nil _ _ _, by simp [homes_none], keepBut.refl _ _⟩
  obtain ⟨b0, b1, b2, r, hbb⟩ := three (show ¬ b.length < 3 by omega)
  obtain ⟨o, hA, hlt, hcell⟩ := hs (by rw [hbb]; simp)
  subst hA
  have c0 : w.cell? ⟨g, o, none⟩ = some (.int .u8 (b0.toNat : Int)) := hcell 0 b0 (by rw [hbb]; rfl)
  have c1 : w.cell? ⟨g, o + 1, none⟩ = some (.int .u8 (b1.toNat : Int)) := hcell 1 b1 (by rw [hbb]; rfl)
  have c2 : w.cell? ⟨g, o + 2, none⟩ = some (.int .u8 (b2.toNat : Int)) := hcell 2 b2 (by rw [hbb]; rfl)
  have l0 : (0 : Int) < (b.length : Int) := by omega
  have l1 : (1 : Int) < (b.length : Int) := by omega
  have l2 : (2 : Int) < (b.length : Int) := by omega
  have hb0 : b.getD 0 0 = b0 := by rw [hbb]; rfl
  obtain ⟨n, hn⟩ : ∃ n, n = lenOf b := ⟨_, rfl⟩
  have hnb : n = b1.toNat * 256 + b2.toNat := by rw [hn, lenOf, hbb]; rfl
  have u1 := UInt8.toNat_lt b1
  have u2 := UInt8.toNat_lt b2
  have u0 := UInt8.toNat_lt b0
  by_cases h1 : 1 < b0.toNat
  · have HP := Lib.hid (show refOpenP b = ([], false, 4) by unfold refOpenP; rw [if_pos (.inr (by rw [hb0]; exact h1))])
    have h1' : (1 : Int) < (b0.toNat : Int) := by omega
    clear hb0 hn hnb hbb hcell hs
    go_enter Tryd.func18, Tryd.ntmps18
    go_wp2_with fail
    go_ret3
    rw [HP.out]
    exact ⟨_, rfl, owns.nil _ _ _, by simp [homes_none], keepBut.refl _ _⟩
  have hn256 : 256 * (b1.toNat : Int) + (b2.toNat : Int) = (n : Int) := by omega
  have HN := Lib.hid hn256
  have h1' : ¬ (1 : Int) < (b0.toNat : Int) := by omega
  have hR : refOpenP b = if b.length < n + 3 then ([], false, 4) else if padP ((b.drop 3).take n) (b0.toNat == 1) = (b, 0) then ((b.drop 3).take n, b0.toNat == 1, 0) else ([], false, 4) := by
    unfold refOpenP; rw [if_neg (by rw [hb0]; omega), ← hn, hb0]
  have HR := Lib.hid hR
  have HS := Lib.hid hs
  clear hn256 hR hb0 hn hnb hbb hcell hs
  go_enter Tryd.func18, Tryd.ntmps18
  go_wp2_with fail
  go_quiet (fail)
  go_upto_region 4 with fail
  have hk0 : keepBut [] w (w.drewN nq) := (keepBut.refl [] w).drewN nq
  simp only [HN.out]
  generalize w.drewN nq = w0 at hk0 ⊢
  by_cases hle : b.length < n + 3
  · have HP := Lib.hid (show refOpenP b = ([], false, 4) by rw [HR.out, if_pos hle])
    have hle' : (b.length : Int) - 3 < (n : Int) := by omega
    go_wp2_with fail
    go_ret3
    rw [HP.out]
    exact ⟨_, rfl, owns.nil _ _ _, by simp [homes_none], hk0⟩
  · have hle' : ¬ (b.length : Int) - 3 < (n : Int) := by omega
    obtain ⟨v, hv⟩ : ∃ v, v = (b.drop 3).take n := ⟨_, rfl⟩
    have hvl : v.length = n := by rw [hv, List.length_take, List.length_drop]; omega
    have hR2 : refOpenP b = if padP v (b0.toNat == 1) = (b, 0) then (v, b0.toNat == 1, 0) else ([], false, 4) := by
      rw [HR.out, if_neg hle, ← hv]
    have HR2 := Lib.hid hR2
    have sv : seen w0 (some ⟨g, o + 3, none⟩) g v := by
      have := ((HS.out.keep hk0 (by simp)).drop 3).take n
      rw [← hv] at this
      simpa [add_plain] using this
    have HV := Lib.hid sv
    clear hR2 HR hv sv
    go_upto_region 6 with fail
    have c00 : w0.cell? ⟨g, o, none⟩ = some (.int .u8 (b0.toNat : Int)) := by
      rw [← c0]; exact hk0.cell (p := ⟨g, o, none⟩) hlt (by simp)
    have h3n : (3 : Int) + (n : Int) ≤ (c : Int) := by omega
    have h33 : (3 : Int) ≤ 3 + (n : Int) := by omega
    have h3c : ¬ c = 3 := by omega
    have hw3 : IntKind.i64.wrap (3 + (n : Int)) = 3 + (n : Int) := wraps_i64 _ (by omega) (by omega)
    go_region_held3 (fun W => W.cell? ⟨g, o, none⟩ = some (.int .u8 (b0.toNat : Int))) (first | go_keep)
      (first
        | (go_at_call 10; refine (copyBytes_n _ g _ (3 + n - 3) v _ (by omega) (HV.out.keep ((keepBut.refl [] w0).drew) (by simp)) (by omega)).mono ?_; rintro e w4 ⟨v4, rfl, ho4, hf4, hk4⟩; have hc4 : w4.cell? ⟨g, o, none⟩ = some (.int .u8 (b0.toNat : Int)) := by rw [← c00]; exact hk4.cell (p := ⟨g, o, none⟩) (Nat.lt_of_lt_of_le hlt hk0.size) (by simp)))
    have k4 := (hk0.drew).then hk4 (by simp)
    have f4 : ∀ x ∈ homes v4, w.heap.size ≤ x := fun x hx => by have := hf4 x hx; have := hk0.size; simp at *; omega
    obtain ⟨A4, c4, g4, rfl, hcc4, hcm4, s4⟩ := seen_homes ho4
    have sb4 := HS.out.keep k4 (by simp)
    have HF := Lib.hid (And.intro ho4 f4)
    clear hk4 hf4 ho4 hc4
    have htb : ((b0.toNat : Int) == 1) = (b0.toNat == 1) := by rw [Bool.eq_iff_iff]; simp; omega
    simp only [htb]
    obtain ⟨P, x, hPx⟩ : ∃ P x, padP v (b0.toNat == 1) = (P, x) := ⟨_, _, rfl⟩
    have hR3 : refOpenP b = if x = 0 ∧ P = b then (v, b0.toNat == 1, 0) else ([], false, 4) := by
      rw [HR2.out, hPx]; congr 1; simp [and_comm]
    clear htb HR2
    generalize (b0.toNat == 1) = tb at *
    have HPX := Lib.hid hPx
    have HR3 := Lib.hid hR3
    have HVL := Lib.hid (show v.length ≤ 140737488355328 by omega)
    clear hR3 hPx hvl
    go_upto_region 7 with fail
    go_wp2_with fail
    refine (refPad_n _ g4 _ v.length v tb _ rfl s4 HVL.out).mono ?_; rintro e w5 ⟨v5, rfl, ho5, hf5, hk5⟩
    rw [HPX.out] at ho5 ⊢
    have k5 := k4.then hk5 (by simp)
    have sb5 := sb4.keep hk5 (by simp)
    obtain ⟨A5, c5, g5, rfl, hcc5, hcm5, s5⟩ := seen_homes ho5
    have ho4 : owns w5 5 1 (.slice A4 v.length c4) v.length (v.map bv) := HF.out.1.keep hk5 (by simp)
    have HO := Lib.hid ho4
    simp only at s5 ⊢
    clear ho4 ho5 hf5 hk5 k4 s4 sb4
    by_cases hx : x = 0
    · subst hx
      go_wp2_with fail
      refine (eqBytes_n _ _ g5 g _ _ P.length b.length P b _ rfl rfl s5 sb5).mono ?_; rintro e w6 ⟨rfl, rfl⟩
      by_cases hpb : P = b
      · have hq : (P == b) = true := by rw [hpb]; simp
        have HP := Lib.hid (show refOpenP b = (v, tb, 0) by rw [HR3.out, if_pos (by simp [hpb])])
        rw [hq]
        clear hpb
        go_wp2_with fail
        go_ret3
        rw [HP.out]
        exact ⟨_, rfl, HO.out, HF.out.2, k5⟩
      · have hq : (P == b) = false := by simpa using hpb
        have HP := Lib.hid (show refOpenP b = ([], false, 4) by rw [HR3.out, if_neg (fun h => hpb h.2)])
        rw [hq]
        clear hpb
        go_wp2_with fail
        go_ret3
        rw [HP.out]
        exact ⟨_, rfl, owns.nil _ _ _, by simp [homes_none], k5⟩
    · have HP := Lib.hid (show refOpenP b = ([], false, 4) by rw [HR3.out, if_neg (fun h => hx h.1)])
      have hx' : (x == 0) = false := by simpa using hx
      go_wp2_with fail
      go_ret3
      rw [HP.out]
      exact ⟨_, rfl, owns.nil _ _ _, by simp [homes_none], k5⟩

theorem refOpen_n (A : Option Addr) (g c n : Nat) (b : List UInt8) (w : World) (hn : b.length = n) (hs : seen w A g b) (hc : n ≤ c) (hcm : c ≤ maxLen) (hb : n ≤ 140737488355328) :
    Calls Tryd.prog 18 #[.slice A n c] w (openPost (openP b) w) := by
  subst hn; exact refOpen_any A g c b w hs hc hcm hb
end Go.Proofs.YtaclpogcedgojaaDoor
