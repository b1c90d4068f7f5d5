/-
  VIEW, 8: First.
-/
import Derived.Test.YtjipokilidhnoaaView7
namespace Go.Proofs.Ytjipokilidhnoaa
open Go.RowKit
set_option linter.unusedVariables false
set_option maxRecDepth 100000

def firstRel (w : World) (l m : List VR) (N : Nat) (v17 : Value) (wx : World) : Prop := ∃ k : Nat, k ≤ N ∧ v17 = .int .i64 (k : Int) ∧ firstAt l m 0 = firstAt (l.drop k) (m.drop k) k ∧ keepBut [] w wx
theorem eight_keep {w w' : World} {g h : Nat} {o0 o1 o2 o3 q0 q1 q2 q3 : Nat} {v0 v1 v2 v3 u0 u1 u2 u3 : Value} (hk : keepBut [] w w') (hg : g < w.heap.size) (hh : h < w.heap.size)
    (H : w.cell? ⟨g, o0, none⟩ = some v0 ∧ w.cell? ⟨g, o1, none⟩ = some v1 ∧ w.cell? ⟨g, o2, none⟩ = some v2 ∧ w.cell? ⟨g, o3, none⟩ = some v3 ∧ w.cell? ⟨h, q0, none⟩ = some u0 ∧ w.cell? ⟨h, q1, none⟩ = some u1 ∧ w.cell? ⟨h, q2, none⟩ = some u2 ∧ w.cell? ⟨h, q3, none⟩ = some u3) :
    w'.cell? ⟨g, o0, none⟩ = some v0 ∧ w'.cell? ⟨g, o1, none⟩ = some v1 ∧ w'.cell? ⟨g, o2, none⟩ = some v2 ∧ w'.cell? ⟨g, o3, none⟩ = some v3 ∧ w'.cell? ⟨h, q0, none⟩ = some u0 ∧ w'.cell? ⟨h, q1, none⟩ = some u1 ∧ w'.cell? ⟨h, q2, none⟩ = some u2 ∧ w'.cell? ⟨h, q3, none⟩ = some u3 := by
  have e := fun o => hk.cell (p := ⟨g, o, none⟩) hg (by simp)
  have f := fun o => hk.cell (p := ⟨h, o, none⟩) hh (by simp)
  simp only [e, f]
  exact H
set_option maxHeartbeats 4000000 in
theorem firstV_any (p q : Nat) (F G : List Nat) (l m : List VR) (w : World) (h : isV w p F l) (h' : isV w q G m) (hl : l.length ≤ 20000) (hm : m.length ≤ 20000) :
    Calls Try.prog 11 #[.pointer (some ⟨p, 0, none⟩), .pointer (some ⟨q, 0, none⟩)] w fun e w' => e = .returned (.int .i64 (firstAt l m 0)) ∧ keepBut [] w w' := by
  obtain ⟨A, c, c1, hc1, hc2, hr1⟩ := h.rows
  obtain ⟨B, d, d1, hd1, hd2, hr2⟩ := h'.rows
  obtain ⟨N, hN⟩ : ∃ N, N = max l.length m.length := ⟨_, rfl⟩
  have HH := Lib.hid (And.intro h (And.intro h' (And.intro hr1 hr2)))
  have HL := Lib.hid (show firstAt l m 0 = firstAt (l.drop 0) (m.drop 0) 0 by simp)
  have hNb : l.length ≤ N ∧ m.length ≤ N ∧ N ≤ 20000 := by omega
  have hor : ((m.length : Int) > (l.length : Int) ∧ N = m.length) ∨ (¬ (m.length : Int) > (l.length : Int) ∧ N = l.length) := by omega
  have HNN := Lib.hid hor
  clear h h' hr1 hr2 hN hor
  go_enter Try.func11, Try.ntmps11
  go_upto_region 2 with (first | (go_at_call 37; (with_reducible refine (items_any p F l A c _ HH.out.1 c1).mono ?_); rintro e w' ⟨rfl, rfl⟩) | (go_at_call 37; (with_reducible refine (items_any q G m B d _ HH.out.2.1 d1).mono ?_); rintro e w' ⟨rfl, rfl⟩))
  go_cut [16, 17] (fun v16 v17 wx => v16 = .int .i64 (N : Int) ∧ v17 = .int .i64 0 ∧ wx = w)
  case first =>
    rcases HNN.out with ⟨hgt, hN⟩ | ⟨hgt, hN⟩
    all_goals
      have HNX := Lib.hid hN
      clear hN
      go_wp2
      go_meet
      exact ⟨by rw [HNX.out], rfl, rfl⟩
  case rest =>
    obtain ⟨rfl, rfl, rfl⟩ := hcut
    clear c1 d1
    go_wp2_with fail
    go_loopw [17, 7, 20, 21, 22, 23, 24, 25, 26, 27, 28, 29, 30, 31, 32, 33, 34, 35, 36, 37, 38, 39, 40, 41] (fun v17 _ _ _ _ _ _ _ _ _ _ _ _ _ _ _ _ _ _ _ _ _ _ _ wx => firstRel wc l m N v17 wx) (fun v17 _ _ _ _ _ _ _ _ _ _ _ _ _ _ _ _ _ _ _ _ _ _ _ _ => N - (intOf v17).toNat)
    case atStart => exact ⟨0, by omega, rfl, HL.out, keepBut.refl _ _⟩
    case round =>
      obtain ⟨k, hk, rfl, he, hkw⟩ := hrel
      have HK := Lib.hid (And.intro he hkw)
      clear he hkw
      by_cases hlt : k < N
      · have hlt' : (k : Int) < (N : Int) := by omega
        by_cases h1 : k < l.length
        · have h1' : ¬ (k : Int) ≥ (l.length : Int) := by omega
          have h1n : (k : Int) < (l.length : Int) := by omega
          by_cases h2 : k < m.length
          · have h2' : ¬ (k : Int) ≥ (m.length : Int) := by omega
            have h2n : (k : Int) < (m.length : Int) := by omega
            obtain ⟨r, hr⟩ : ∃ r, l[k]? = some r := ⟨_, List.getElem?_eq_getElem h1⟩
            obtain ⟨u, hu⟩ : ∃ u, m[k]? = some u := ⟨_, List.getElem?_eq_getElem h2⟩
            obtain ⟨g, o, rfl, hg, hgF, hall⟩ := HH.out.2.2.1 (by rintro rfl; simp at h1)
            obtain ⟨g2, o2, rfl, hg2, hgG, hall2⟩ := HH.out.2.2.2 (by rintro rfl; simp at h2)
            obtain ⟨A1, n1, hb, y0, y1, y2, y3⟩ := hall k r hr
            obtain ⟨A2, n2, hb2, z0, z1, z2, z3⟩ := hall2 k u hu
            have HF := Lib.hid (firstAt_both hr hu)
            have hkw := HK.out.2
            have sy := eight_keep hkw hg hg2 ⟨y0, y1, y2, y3, z0, z1, z2, z3⟩
            have hbk := hb.keep hkw (by simp)
            have hbk2 := hb2.keep hkw (by simp)
            have hgr := Nat.lt_of_lt_of_le hg hkw.size
            have hgr2 := Nat.lt_of_lt_of_le hg2 hkw.size
            obtain ⟨s, nd, kd, b⟩ := r
            obtain ⟨s', nd', kd', b'⟩ := u
            dsimp only at hbk hbk2 sy
            have HBB := Lib.hid (And.intro hbk hbk2)
            have HS := Lib.hid (fun (W : World) hx hy => sameR_any F G s nd kd b s' nd' kd' b' A1 A2 n1 n2 W hx hy)
            clear y0 y1 y2 y3 z0 z1 z2 z3 hb hb2 hall hall2 hr hu hkw hbk hbk2
            generalize sameV ⟨s, nd, kd, b⟩ ⟨s', nd', kd', b'⟩ = sv at *
            cases sv with
            | true =>
              go_upto_region 5 with fail
              go_region_held3 (fun w' => w'.cell? ⟨g, o + k * 4, none⟩ = some (.int .i64 s) ∧ w'.cell? ⟨g, o + k * 4 + 1, none⟩ = some (.int .i64 nd) ∧ w'.cell? ⟨g, o + k * 4 + 2, none⟩ = some (.int .i64 kd) ∧ w'.cell? ⟨g, o + k * 4 + 3, none⟩ = some (.slice A1 b.length n1) ∧ w'.cell? ⟨g2, o2 + k * 4, none⟩ = some (.int .i64 s') ∧ w'.cell? ⟨g2, o2 + k * 4 + 1, none⟩ = some (.int .i64 nd') ∧ w'.cell? ⟨g2, o2 + k * 4 + 2, none⟩ = some (.int .i64 kd') ∧ w'.cell? ⟨g2, o2 + k * 4 + 3, none⟩ = some (.slice A2 b'.length n2)) (first | exact sy | exact sy5)
                (first
                  | (go_at_call 38; (with_reducible refine (HS.out _ (HBB.out.1.keep ((keepBut.refl [] wr).drew) (by simp)) (HBB.out.2.keep ((keepBut.refl [] wr).drew) (by simp))).mono ?_); rintro e w5 ⟨rfl, k5⟩; have K5 := Lib.hid (((keepBut.refl [] wr).drew).then k5 (by simp)); have sy5 := eight_keep K5.out hgr hgr2 sy; clear k5)
                  | fail)
              clear sy sy5
              go_wp2_with fail
              go_roundw
              case rel => exact ⟨k + 1, by omega, by go_num, by rw [HK.out.1, HF.out]; rfl, HK.out.2.then K5.out (by simp)⟩
              case measure => simp [intOf]; omega
            | false =>
              go_upto_region 5 with fail
              go_region_held3 (fun w' => w'.cell? ⟨g, o + k * 4, none⟩ = some (.int .i64 s) ∧ w'.cell? ⟨g, o + k * 4 + 1, none⟩ = some (.int .i64 nd) ∧ w'.cell? ⟨g, o + k * 4 + 2, none⟩ = some (.int .i64 kd) ∧ w'.cell? ⟨g, o + k * 4 + 3, none⟩ = some (.slice A1 b.length n1) ∧ w'.cell? ⟨g2, o2 + k * 4, none⟩ = some (.int .i64 s') ∧ w'.cell? ⟨g2, o2 + k * 4 + 1, none⟩ = some (.int .i64 nd') ∧ w'.cell? ⟨g2, o2 + k * 4 + 2, none⟩ = some (.int .i64 kd') ∧ w'.cell? ⟨g2, o2 + k * 4 + 3, none⟩ = some (.slice A2 b'.length n2)) (first | exact sy | exact sy5)
                (first
                  | (go_at_call 38; (with_reducible refine (HS.out _ (HBB.out.1.keep ((keepBut.refl [] wr).drew) (by simp)) (HBB.out.2.keep ((keepBut.refl [] wr).drew) (by simp))).mono ?_); rintro e w5 ⟨rfl, k5⟩; have K5 := Lib.hid (((keepBut.refl [] wr).drew).then k5 (by simp)); have sy5 := eight_keep K5.out hgr hgr2 sy; clear k5)
                  | fail)
              clear sy sy5
              go_wp2
              go_ret
              exact ⟨by rw [HK.out.1, HF.out]; rfl, HK.out.2.then K5.out (by simp)⟩
          · have h2' : (k : Int) ≥ (m.length : Int) := by omega
            have HF := Lib.hid (firstAt_m (l := l) (m := m) (k := k) (by omega) h1)
            go_upto_region 5 with fail
            go_quiet (fail)
            go_wp2
            go_ret
            exact ⟨by rw [HK.out.1, HF.out]; rfl, HK.out.2.then ((keepBut.refl [] wr).drewN _) (by simp)⟩
        · have h1' : (k : Int) ≥ (l.length : Int) := by omega
          have hkm : k < m.length := by rcases HNN.out with ⟨_, b⟩ | ⟨_, b⟩ <;> omega
          have HF := Lib.hid (firstAt_l (l := l) (m := m) (k := k) (by omega) hkm)
          clear hkm
          go_upto_region 5 with fail
          go_quiet (fail)
          go_wp2
          go_ret
          exact ⟨by rw [HK.out.1, HF.out]; rfl, HK.out.2.then ((keepBut.refl [] wr).drewN _) (by simp)⟩
      · obtain rfl : k = N := by omega
        have HF := Lib.hid (firstAt_end (l := l) (m := m) (k := k) hNb.1 hNb.2.1)
        go_wp2
        go_ret
        exact ⟨by rw [HK.out.1, HF.out]; rfl, HK.out.2⟩
end Go.Proofs.Ytjipokilidhnoaa
