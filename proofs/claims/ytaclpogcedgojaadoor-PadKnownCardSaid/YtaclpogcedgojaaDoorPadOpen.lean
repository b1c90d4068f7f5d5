/-
  PAD: Open.
-/
import Derived.Test.YtaclpogcedgojaaDoorPadPad
import Derived.Test.YtaclpogcedgojaaDoorBits
import Derived.Deep.QuietTactic
import Derived.BigQuiet
import Derived.ScopeJumps
namespace Go.Proofs.YtaclpogcedgojaaDoor
open Go.RowKit
set_option linter.unusedVariables false

def lenOf (b : List UInt8) : Nat := (b.getD 1 0).toNat * 256 + (b.getD 2 0).toNat
def openP (b : List UInt8) : List UInt8 × Bool × Int :=
  if b.length < 3 then ([], false, 4)
  else if classP (lenOf b : Int) ≠ (b.length : Int) ∨ allZero (b.drop (3 + lenOf b)) = false then ([], false, 4)
  else if b.getD 0 0 = 0 then ((b.drop 3).take (lenOf b), false, 0)
  else if b.getD 0 0 = 1 ∧ lenOf b = 0 then ([], true, 0)
  else ([], false, 4)
def openPost (r : List UInt8 × Bool × Int) (w : World) (e : Ending) (w' : World) : Prop :=
  ∃ v, e = .returned (.tuple #[v, .bool r.2.1, .int .i64 r.2.2]) ∧ owns w' 5 1 v r.1.length (r.1.map bv) ∧ (∀ x ∈ homes v, w.heap.size ≤ x) ∧ keepBut [] w w'

theorem or_i64_byte (x b : Nat) (hx : x < 256) (hb : b < 256) : bits .or .i64 (wrap64 (wrap64 (x : Int) * 256)) (wrap64 (b : Int)) = ((x * 256 + b : Nat) : Int) := by
  have e1 : wrap64 (x : Int) = x := by unfold wrap64; omega
  have e2 : wrap64 (b : Int) = b := by unfold wrap64; omega
  have e3 : wrap64 ((x : Int) * 256) = (x : Int) * 256 := by unfold wrap64; omega
  rw [e1, e2, e3, bits_join .i64 63 (by decide) wraps_i64 8 _ _ (by omega) (by omega) (by omega) (by omega) (by omega) (by omega)]
  omega

/-- what holds where the walk jumps to 'refused' -/
def refusedAt (b : List UInt8) (w : World) (a' : Act) (w' : World) : Prop := keepBut [] w w' ∧ openP b = ([], false, 4) ∧ ∃ (u0 u1 u2 u3 u4 u5 u6 u7 u8 u9 u10 u11 u12 u13 u14 u15 u16 u17 u18 u19 u20 u21 u22 u23 u24 u25 u26 u27 u28 u29 u30 u31 u32 u33 u34 u35 u36 u37 u38 u39 u40 u41 u42 u43 u44 u45 u46 u47 u48 u49 u50 : Value), a' = { tmps := #[u0, u1, u2, u3, u4, u5, u6, u7, u8, u9, u10, u11, u12, u13, u14, u15, u16, u17, u18, u19, u20, u21, u22, u23, u24, u25, u26, u27, u28, u29, u30, u31, u32, u33, u34, u35, u36, u37, u38, u39, u40, u41, u42, u43, u44, u45, u46, u47, u48, u49, u50], defers := [] }
theorem isZero_n (A : Option Addr) (g c n : Nat) (l : List UInt8) (w : World) (hn : l.length = n) (hs : seen w A g l) (hb : n ≤ 140737488355328) :
    Calls Tryd.prog 20 #[.slice A n c] w fun e w' => e = .returned (.bool (allZero l)) ∧ w = w' := by
  subst hn; exact isZero_any A g c l w hs hb

set_option maxRecDepth 100000 in
set_option maxHeartbeats 4000000 in
theorem open_any (A : Option Addr) (g c : Nat) (b : List UInt8) (w : World) (h : classesAt w) (hs : seen w A g b) (hc : b.length ≤ c) (hcm : c ≤ maxLen) (hb : b.length ≤ 140737488355328) :
    Calls Tryd.prog 17 #[.slice A b.length c] w (openPost (openP b) w) := by
  unfold maxLen at hcm
  by_cases h3 : b.length < 3
  · have HP := Lib.hid (show openP b = ([], false, 4) by unfold openP; rw [if_pos h3])
    go_enter Tryd.func17, Tryd.ntmps17
    go_wp2_with fail
    refine wp_scope_jumps 0 (refusedAt b w) (fun _ _ => 0) rfl ?_ ?_
    · go_wp2_with fail
      go_step3
      exact ⟨rfl, keepBut.refl _ _, HP.out, ⟨_, _, _, _, _, _, _, _, _, _, _, _, _, _, _, _, _, _, _, _, _, _, _, _, _, _, _, _, _, _, _, _, _, _, _, _, _, _, _, _, _, _, _, _, _, _, _, _, _, _, _, rfl⟩⟩
    · rintro a' w' ⟨hk, hP, u0, u1, u2, u3, u4, u5, u6, u7, u8, u9, u10, u11, u12, u13, u14, u15, u16, u17, u18, u19, u20, u21, u22, u23, u24, u25, u26, u27, u28, u29, u30, u31, u32, u33, u34, u35, u36, u37, u38, u39, u40, u41, u42, u43, u44, u45, u46, u47, u48, u49, u50, rfl⟩
      have HPP := Lib.hid hP
      clear hP
      go_wp2_with fail
      simp only [Exit.jump]
      go_ret3
      rw [HPP.out]
      exact ⟨_, rfl, owns.nil _ _ _, by simp [homes_none], hk⟩
  · obtain ⟨o, rfl, hlt, hcell⟩ := id hs (by rintro rfl; simp at h3)
    obtain ⟨b0, b1, b2, r, hbb⟩ : ∃ b0 b1 b2 r, b = b0 :: b1 :: b2 :: r := by
      match b, h3 with
      | [], h => simp at h
      | [_], h => simp at h
      | [_, _], h => simp at h
      | x :: y :: z :: r, _ => exact ⟨x, y, z, r, rfl⟩
    have c0 : w.cell? ⟨g, o, none⟩ = some (.int .u8 (b0.toNat : Int)) := hcell 0 b0 (by rw [hbb]; rfl)
    have c1 : w.cell? ⟨g, o + 1, none⟩ = some (.int .u8 (b1.toNat : Int)) := hcell 1 b1 (by rw [hbb]; rfl)
    have c2 : w.cell? ⟨g, o + 2, none⟩ = some (.int .u8 (b2.toNat : Int)) := hcell 2 b2 (by rw [hbb]; rfl)
    have l0 : (0 : Int) < (b.length : Int) := by omega
    have l1 : (1 : Int) < (b.length : Int) := by omega
    have l2 : (2 : Int) < (b.length : Int) := by omega
    have l3 : ¬ (b.length : Int) < 3 := by omega
    have hb0 : b.getD 0 0 = b0 := by rw [hbb]; rfl
    obtain ⟨n, hn⟩ : ∃ n, n = lenOf b := ⟨_, rfl⟩
    have hnb : bits .or .i64 (wrap64 (wrap64 (b1.toNat : Int) * 256)) (wrap64 (b2.toNat : Int)) = (n : Int) := by
      rw [or_i64_byte _ _ (UInt8.toNat_lt b1) (UInt8.toNat_lt b2), hn, lenOf, hbb]; rfl
    have hn6 : n ≤ 65535 := by
      rw [hn]; unfold lenOf
      have := UInt8.toNat_lt (b.getD 1 0); have := UInt8.toNat_lt (b.getD 2 0); omega
    have hnd : openP b = if classP (n : Int) ≠ (b.length : Int) ∨ allZero (b.drop (3 + n)) = false then ([], false, 4) else if b0 = 0 then ((b.drop 3).take n, false, 0) else if b0 = 1 ∧ n = 0 then ([], true, 0) else ([], false, 4) := by
      unfold openP; rw [if_neg h3, ← hn, hb0]
    have HN := Lib.hid hnd
    clear hnd hn hbb hb0 hcell h3
    have HS := Lib.hid hs
    clear hs
    by_cases hcl : classP (n : Int) = (b.length : Int)
    · have hS : n ≤ 250 ∧ n + 3 ≤ b.length ∧ 16 ≤ b.length := by
        rcases classP_cases n with ⟨h1, h2⟩ | ⟨S, h1, h2, h3, h4, h5⟩
        · rw [h2] at hcl; omega
        · rw [h2] at hcl; omega
      obtain ⟨hn2, hn3, hn16⟩ := hS
      have HC := Lib.hid hcl
      have hsd := HS.out.drop (3 + n)
      simp only [Option.map_some, add_plain] at hsd
      have hsd2 : seen w (some ⟨g, o, none⟩) g (b.drop (3 + n)) ∨ ¬ c = 3 + n := by
        by_cases h1 : c = 3 + n
        · exact .inl (by rw [List.drop_eq_nil_of_le (by omega)]; exact seen.nil _ _ _)
        · exact .inr h1
      have HSD := Lib.hid (And.intro hsd hsd2)
      clear hcl hsd hsd2
      by_cases hz : allZero (b.drop (3 + n)) = true
      · have HZ := Lib.hid hz
        by_cases h00 : b0 = 0
        · obtain ⟨v, hv⟩ : ∃ v, v = (b.drop 3).take n := ⟨_, rfl⟩
          have hvl : v.length = n := by rw [hv, List.length_take, List.length_drop]; omega
          have HP := Lib.hid (show openP b = (v, false, 0) by rw [HN.out, if_neg (by simp [HC.out, hz]), if_pos h00, hv])
          have d0 : ((b0.toNat : Int) == 0) = true := by rw [h00]; rfl
          have hvv : ∀ W, keepBut [] w W → reads W (some ⟨g, o + 3, none⟩) g (3 + n - 3) 1 (v.map bv) := fun W hK => by
            rw [show 3 + n - 3 = n by omega]
            have := (((HS.out.keep hK (by simp)).drop 3).take n).reads
            rw [← hv, hvl] at this
            simpa [add_plain] using this
          have HV := Lib.hid hvv
          have HVL := Lib.hid hvl
          obtain ⟨i0, hi0, hz0, hz1, hz2⟩ := info_parts infoU8
          have h3c : ¬ c = 3 := by omega
          have h3n : (3 : Int) + (n : Int) ≤ (c : Int) := by omega
          clear hz h00 hv hvl hvv
          go_enter Tryd.func17, Tryd.ntmps17
          go_wp2_with fail
          refine wp_scope_jumps 0 (refusedAt b w) (fun _ _ => 0) rfl ?_ ?_
          · go_wp2_with fail
            go_quiet (fail)
            go_upto_region 4 with fail
            have hk0 : keepBut [] w (w.drewN nq) := (keepBut.refl [] w).drewN nq
            have hC0 := h.keep hk0
            go_wp2_with fail
            refine (class_any _ _ hC0).mono ?_; rintro e w' ⟨rfl, rfl⟩; rw [HC.out]
            go_wp2_with fail
            · refine (isZero_n _ g _ (b.length - (3 + n)) (b.drop (3 + n)) _ (by rw [List.length_drop]) ((HSD.out.2.resolve_right (fun hx => hx ‹_›)).keep hk0 (by simp)) (by omega)).mono ?_; rintro e w' ⟨rfl, rfl⟩; rw [HZ.out]
              go_wp2_with (at_builtin; refine wp_append _ rfl (.const (.slice none 0 0)) (.tmp 40) 22 rfl 5 i0 (.int .u8 0) 1 1 Tryd.underlying22 hi0 hz0 hz1 hz2 rfl (by decide) (.slice none 0 0) 0 [] rfl (owns.nil _ _ _) _ g (3 + n - 3) _ _ rfl (HV.out _ hk0) (by intro u hu; simp at hu; obtain ⟨b, _, rfl⟩ := hu; rfl) (by omega) (by unfold maxLen; omega) ?_; intro A2 c2 w2 hown2 hkb2 hloc2)
              simp only [Exit.jump]
              go_ret3
              rw [HP.out]
              exact ⟨_, rfl, by rw [HVL.out]; simpa using hown2, fun x hx => by
                rcases hloc2 x (by simpa using hx) with h1 | h1
                · simp [homes_none] at h1
                · exact h1, hk0.then hkb2 (by simp [homes_none])⟩
            · refine (isZero_n _ g _ (b.length - (3 + n)) (b.drop (3 + n)) _ (by rw [List.length_drop]) (HSD.out.1.keep hk0 (by simp)) (by omega)).mono ?_; rintro e w' ⟨rfl, rfl⟩; rw [HZ.out]
              go_wp2_with (at_builtin; refine wp_append _ rfl (.const (.slice none 0 0)) (.tmp 40) 22 rfl 5 i0 (.int .u8 0) 1 1 Tryd.underlying22 hi0 hz0 hz1 hz2 rfl (by decide) (.slice none 0 0) 0 [] rfl (owns.nil _ _ _) _ g (3 + n - 3) _ _ rfl (HV.out _ hk0) (by intro u hu; simp at hu; obtain ⟨b, _, rfl⟩ := hu; rfl) (by omega) (by unfold maxLen; omega) ?_; intro A2 c2 w2 hown2 hkb2 hloc2)
              simp only [Exit.jump]
              go_ret3
              rw [HP.out]
              exact ⟨_, rfl, by rw [HVL.out]; simpa using hown2, fun x hx => by
                rcases hloc2 x (by simpa using hx) with h1 | h1
                · simp [homes_none] at h1
                · exact h1, hk0.then hkb2 (by simp [homes_none])⟩
          · rintro a' w' ⟨hk, hP, u0, u1, u2, u3, u4, u5, u6, u7, u8, u9, u10, u11, u12, u13, u14, u15, u16, u17, u18, u19, u20, u21, u22, u23, u24, u25, u26, u27, u28, u29, u30, u31, u32, u33, u34, u35, u36, u37, u38, u39, u40, u41, u42, u43, u44, u45, u46, u47, u48, u49, u50, rfl⟩
            have HPP := Lib.hid hP
            clear hP
            go_wp2_with fail
            simp only [Exit.jump]
            go_ret3
            rw [HPP.out]
            exact ⟨_, rfl, owns.nil _ _ _, by simp [homes_none], hk⟩
        · have d0 : ((b0.toNat : Int) == 0) = false := by
            have : b0.toNat ≠ 0 := fun h => h00 (by rw [← UInt8.toNat_inj]; simpa using h)
            simp; omega
          by_cases h01 : b0 = 1 ∧ n = 0
          · obtain ⟨h01, hn0⟩ := h01
            have HP := Lib.hid (show openP b = ([], true, 0) by rw [HN.out, if_neg (by simp [HC.out, hz]), if_neg h00, if_pos ⟨h01, hn0⟩])
            have d1 : ((b0.toNat : Int) == 1) = true := by rw [h01]; rfl
            have d2 : ((n : Int) == 0) = true := by rw [hn0]; rfl
            clear hz h00 h01 hn0
            go_enter Tryd.func17, Tryd.ntmps17
            go_wp2_with fail
            refine wp_scope_jumps 0 (refusedAt b w) (fun _ _ => 0) rfl ?_ ?_
            · go_wp2_with fail
              go_quiet (fail)
              go_upto_region 4 with fail
              have hk0 : keepBut [] w (w.drewN nq) := (keepBut.refl [] w).drewN nq
              have hC0 := h.keep hk0
              go_wp2_with fail
              refine (class_any _ _ hC0).mono ?_; rintro e w' ⟨rfl, rfl⟩; rw [HC.out]
              go_wp2_with fail
              · refine (isZero_n _ g _ (b.length - (3 + n)) (b.drop (3 + n)) _ (by rw [List.length_drop]) ((HSD.out.2.resolve_right (fun hx => hx ‹_›)).keep hk0 (by simp)) (by omega)).mono ?_; rintro e w' ⟨rfl, rfl⟩; rw [HZ.out]
                go_wp2_with fail
                simp only [Exit.jump]
                go_ret3
                rw [HP.out]
                exact ⟨_, rfl, owns.nil _ _ _, by simp [homes_none], hk0⟩
              · refine (isZero_n _ g _ (b.length - (3 + n)) (b.drop (3 + n)) _ (by rw [List.length_drop]) (HSD.out.1.keep hk0 (by simp)) (by omega)).mono ?_; rintro e w' ⟨rfl, rfl⟩; rw [HZ.out]
                go_wp2_with fail
                simp only [Exit.jump]
                go_ret3
                rw [HP.out]
                exact ⟨_, rfl, owns.nil _ _ _, by simp [homes_none], hk0⟩
            · rintro a' w' ⟨hk, hP, u0, u1, u2, u3, u4, u5, u6, u7, u8, u9, u10, u11, u12, u13, u14, u15, u16, u17, u18, u19, u20, u21, u22, u23, u24, u25, u26, u27, u28, u29, u30, u31, u32, u33, u34, u35, u36, u37, u38, u39, u40, u41, u42, u43, u44, u45, u46, u47, u48, u49, u50, rfl⟩
              have HPP := Lib.hid hP
              clear hP
              go_wp2_with fail
              simp only [Exit.jump]
              go_ret3
              rw [HPP.out]
              exact ⟨_, rfl, owns.nil _ _ _, by simp [homes_none], hk⟩
          · have HP := Lib.hid (show openP b = ([], false, 4) by rw [HN.out, if_neg (by simp [HC.out, hz]), if_neg h00, if_neg h01])
            have dd : (((b0.toNat : Int) == 1) = false) ∨ (((b0.toNat : Int) == 1) = true ∧ ((n : Int) == 0) = false) := by
              by_cases h1 : b0 = 1
              · exact .inr ⟨by rw [h1]; rfl, by have : n ≠ 0 := fun h => h01 ⟨h1, h⟩; simp; omega⟩
              · exact .inl (by
                  have : b0.toNat ≠ 1 := fun h => h1 (by rw [← UInt8.toNat_inj]; simpa using h)
                  simp; omega)
            clear hz h00 h01
            rcases dd with d1 | ⟨d1, d2⟩
            · go_enter Tryd.func17, Tryd.ntmps17
              go_wp2_with fail
              refine wp_scope_jumps 0 (refusedAt b w) (fun _ _ => 0) rfl ?_ ?_
              · go_wp2_with fail
                go_quiet (fail)
                go_upto_region 4 with fail
                have hk0 : keepBut [] w (w.drewN nq) := (keepBut.refl [] w).drewN nq
                have hC0 := h.keep hk0
                go_wp2_with fail
                refine (class_any _ _ hC0).mono ?_; rintro e w' ⟨rfl, rfl⟩; rw [HC.out]
                go_wp2_with fail
                · refine (isZero_n _ g _ (b.length - (3 + n)) (b.drop (3 + n)) _ (by rw [List.length_drop]) ((HSD.out.2.resolve_right (fun hx => hx ‹_›)).keep hk0 (by simp)) (by omega)).mono ?_; rintro e w' ⟨rfl, rfl⟩; rw [HZ.out]
                  go_wp2_with fail
                  go_step3
                  go_wp2_with fail
                  simp only [Exit.jump]
                  go_ret3
                  rw [HP.out]
                  exact ⟨_, rfl, owns.nil _ _ _, by simp [homes_none], hk0⟩
                · refine (isZero_n _ g _ (b.length - (3 + n)) (b.drop (3 + n)) _ (by rw [List.length_drop]) (HSD.out.1.keep hk0 (by simp)) (by omega)).mono ?_; rintro e w' ⟨rfl, rfl⟩; rw [HZ.out]
                  go_wp2_with fail
                  go_step3
                  go_wp2_with fail
                  simp only [Exit.jump]
                  go_ret3
                  rw [HP.out]
                  exact ⟨_, rfl, owns.nil _ _ _, by simp [homes_none], hk0⟩
              · rintro a' w' ⟨hk, hP, u0, u1, u2, u3, u4, u5, u6, u7, u8, u9, u10, u11, u12, u13, u14, u15, u16, u17, u18, u19, u20, u21, u22, u23, u24, u25, u26, u27, u28, u29, u30, u31, u32, u33, u34, u35, u36, u37, u38, u39, u40, u41, u42, u43, u44, u45, u46, u47, u48, u49, u50, rfl⟩
                have HPP := Lib.hid hP
                clear hP
                go_wp2_with fail
                simp only [Exit.jump]
                go_ret3
                rw [HPP.out]
                exact ⟨_, rfl, owns.nil _ _ _, by simp [homes_none], hk⟩
            · go_enter Tryd.func17, Tryd.ntmps17
              go_wp2_with fail
              refine wp_scope_jumps 0 (refusedAt b w) (fun _ _ => 0) rfl ?_ ?_
              · go_wp2_with fail
                go_quiet (fail)
                go_upto_region 4 with fail
                have hk0 : keepBut [] w (w.drewN nq) := (keepBut.refl [] w).drewN nq
                have hC0 := h.keep hk0
                go_wp2_with fail
                refine (class_any _ _ hC0).mono ?_; rintro e w' ⟨rfl, rfl⟩; rw [HC.out]
                go_wp2_with fail
                · refine (isZero_n _ g _ (b.length - (3 + n)) (b.drop (3 + n)) _ (by rw [List.length_drop]) ((HSD.out.2.resolve_right (fun hx => hx ‹_›)).keep hk0 (by simp)) (by omega)).mono ?_; rintro e w' ⟨rfl, rfl⟩; rw [HZ.out]
                  go_wp2_with fail
                  go_step3
                  go_wp2_with fail
                  simp only [Exit.jump]
                  go_ret3
                  rw [HP.out]
                  exact ⟨_, rfl, owns.nil _ _ _, by simp [homes_none], hk0⟩
                · refine (isZero_n _ g _ (b.length - (3 + n)) (b.drop (3 + n)) _ (by rw [List.length_drop]) (HSD.out.1.keep hk0 (by simp)) (by omega)).mono ?_; rintro e w' ⟨rfl, rfl⟩; rw [HZ.out]
                  go_wp2_with fail
                  go_step3
                  go_wp2_with fail
                  simp only [Exit.jump]
                  go_ret3
                  rw [HP.out]
                  exact ⟨_, rfl, owns.nil _ _ _, by simp [homes_none], hk0⟩
              · rintro a' w' ⟨hk, hP, u0, u1, u2, u3, u4, u5, u6, u7, u8, u9, u10, u11, u12, u13, u14, u15, u16, u17, u18, u19, u20, u21, u22, u23, u24, u25, u26, u27, u28, u29, u30, u31, u32, u33, u34, u35, u36, u37, u38, u39, u40, u41, u42, u43, u44, u45, u46, u47, u48, u49, u50, rfl⟩
                have HPP := Lib.hid hP
                clear hP
                go_wp2_with fail
                simp only [Exit.jump]
                go_ret3
                rw [HPP.out]
                exact ⟨_, rfl, owns.nil _ _ _, by simp [homes_none], hk⟩
      · have hzf : allZero (b.drop (3 + n)) = false := by simpa using hz
        have HZ := Lib.hid hzf
        have HP := Lib.hid (show openP b = ([], false, 4) by rw [HN.out, if_pos (.inr hzf)])
        clear hz hzf
        go_enter Tryd.func17, Tryd.ntmps17
        go_wp2_with fail
        refine wp_scope_jumps 0 (refusedAt b w) (fun _ _ => 0) rfl ?_ ?_
        · go_wp2_with fail
          go_quiet (fail)
          go_upto_region 4 with fail
          have hk0 : keepBut [] w (w.drewN nq) := (keepBut.refl [] w).drewN nq
          have hC0 := h.keep hk0
          go_wp2_with fail
          refine (class_any _ _ hC0).mono ?_; rintro e w' ⟨rfl, rfl⟩; rw [HC.out]
          go_wp2_with fail
          · refine (isZero_n _ g _ (b.length - (3 + n)) (b.drop (3 + n)) _ (by rw [List.length_drop]) ((HSD.out.2.resolve_right (fun hx => hx ‹_›)).keep hk0 (by simp)) (by omega)).mono ?_; rintro e w' ⟨rfl, rfl⟩; rw [HZ.out]
            go_wp2_with fail
            go_step3
            exact ⟨rfl, hk0, HP.out, ⟨_, _, _, _, _, _, _, _, _, _, _, _, _, _, _, _, _, _, _, _, _, _, _, _, _, _, _, _, _, _, _, _, _, _, _, _, _, _, _, _, _, _, _, _, _, _, _, _, _, _, _, rfl⟩⟩
          · refine (isZero_n _ g _ (b.length - (3 + n)) (b.drop (3 + n)) _ (by rw [List.length_drop]) (HSD.out.1.keep hk0 (by simp)) (by omega)).mono ?_; rintro e w' ⟨rfl, rfl⟩; rw [HZ.out]
            go_wp2_with fail
            go_step3
            exact ⟨rfl, hk0, HP.out, ⟨_, _, _, _, _, _, _, _, _, _, _, _, _, _, _, _, _, _, _, _, _, _, _, _, _, _, _, _, _, _, _, _, _, _, _, _, _, _, _, _, _, _, _, _, _, _, _, _, _, _, _, rfl⟩⟩
        · rintro a' w' ⟨hk, hP, u0, u1, u2, u3, u4, u5, u6, u7, u8, u9, u10, u11, u12, u13, u14, u15, u16, u17, u18, u19, u20, u21, u22, u23, u24, u25, u26, u27, u28, u29, u30, u31, u32, u33, u34, u35, u36, u37, u38, u39, u40, u41, u42, u43, u44, u45, u46, u47, u48, u49, u50, rfl⟩
          have HPP := Lib.hid hP
          clear hP
          go_wp2_with fail
          simp only [Exit.jump]
          go_ret3
          rw [HPP.out]
          exact ⟨_, rfl, owns.nil _ _ _, by simp [homes_none], hk⟩
    · have HP := Lib.hid (show openP b = ([], false, 4) by rw [HN.out, if_pos (.inl hcl)])
      obtain ⟨q, hq⟩ : ∃ q, q = classP (n : Int) := ⟨_, rfl⟩
      have hqn : (q != (b.length : Int)) = true := by rw [hq]; simpa using hcl
      have HQ := Lib.hid hq.symm
      clear hq hcl
      go_enter Tryd.func17, Tryd.ntmps17
      go_wp2_with fail
      refine wp_scope_jumps 0 (refusedAt b w) (fun _ _ => 0) rfl ?_ ?_
      · go_wp2_with fail
        go_quiet (fail)
        go_upto_region 4 with fail
        have hk0 : keepBut [] w (w.drewN nq) := (keepBut.refl [] w).drewN nq
        have hC0 := h.keep hk0
        go_wp2_with fail
        refine (class_any _ _ hC0).mono ?_; rintro e w' ⟨rfl, rfl⟩; rw [HQ.out]
        go_wp2_with fail
        go_step3
        exact ⟨rfl, hk0, HP.out, ⟨_, _, _, _, _, _, _, _, _, _, _, _, _, _, _, _, _, _, _, _, _, _, _, _, _, _, _, _, _, _, _, _, _, _, _, _, _, _, _, _, _, _, _, _, _, _, _, _, _, _, _, rfl⟩⟩
      · rintro a' w' ⟨hk, hP, u0, u1, u2, u3, u4, u5, u6, u7, u8, u9, u10, u11, u12, u13, u14, u15, u16, u17, u18, u19, u20, u21, u22, u23, u24, u25, u26, u27, u28, u29, u30, u31, u32, u33, u34, u35, u36, u37, u38, u39, u40, u41, u42, u43, u44, u45, u46, u47, u48, u49, u50, rfl⟩
        have HPP := Lib.hid hP
        clear hP
        go_wp2_with fail
        simp only [Exit.jump]
        go_ret3
        rw [HPP.out]
        exact ⟨_, rfl, owns.nil _ _ _, by simp [homes_none], hk⟩
end Go.Proofs.YtaclpogcedgojaaDoor
