/-
  LeadCounts: promises and yeses count once for each master.
-/
import Derived.Test.YtbjonlfjfjlelaaLeadCountsPure
namespace Go.Proofs.Ytbjonlfjfjlelaa
open Go.RowKit
set_option linter.unusedVariables false
set_option maxRecDepth 100000

set_option maxHeartbeats 8000000 in
theorem leadCounts_walk (x0 : Int) (A : Option Addr) (k1 n1 d1 : Nat) (xs : List Int) (B : Option Addr) (k2 n2 d2 : Nat) (ys : List Int) (w : World) (hx0 : (Lit.int .i64 x0).wf = true)
    (rd1 : reads w A k1 n1 1 (cellsK .i64 xs)) (hnd1 : n1 ≤ d1) (hd1 : d1 ≤ maxLen) (hx1 : ∀ x ∈ xs, (Lit.int .i64 x).wf = true)
    (rd2 : reads w B k2 n2 1 (cellsK .i64 ys)) (hnd2 : n2 ≤ d2) (hd2 : d2 ≤ maxLen) (hx2 : ∀ x ∈ ys, (Lit.int .i64 x).wf = true) :
    Calls Try.prog 9 #[.int .i64 x0, .slice A n1 d1, .slice B n2 d2] w (yesPost w) := by
  have hxb : -9223372036854775808 ≤ x0 ∧ x0 ≤ 9223372036854775807 := by simpa [Lit.wf, IntKind.min, IntKind.max, IntKind.signed, IntKind.bits] using hx0
  obtain ⟨id, hid⟩ : ∃ id : Int, x0 % 3 = id := ⟨_, rfl⟩
  have hid0 : 0 ≤ id := by have := Int.emod_nonneg x0 (show (3 : Int) ≠ 0 by omega); omega
  have hid1 : id < 3 := by have := Int.emod_lt_of_pos x0 (show (0 : Int) < 3 by omega); omega
  obtain ⟨b, hb⟩ : ∃ b : Int, b = nextB 1 id := ⟨_, rfl⟩
  have hb1 := nextB_ok 1 id hid0 hid1
  rw [← hb] at hb1
  have HP := Lib.hid hid
  have HB := Lib.hid hb
  have hb2 : 0 ≤ b ∧ b ≤ 3 := by omega
  clear hid hx0 hb hb1
  unfold maxLen at hd1 hd2
  have hxl1 : xs.length = n1 := by have := rd1.1; simp [cellsK] at this; omega
  have hxl2 : ys.length = n2 := by have := rd2.1; simp [cellsK] at this; omega
  have HXL1 := Lib.hid hxl1
  have HXL2 := Lib.hid hxl2
  clear hxl1 hxl2
  have HX1 := Lib.hid (And.intro rd1 hx1)
  have HX2 := Lib.hid (And.intro rd2 hx2)
  clear rd1 hx1 rd2 hx2
  go_enter Try.func9, Try.ntmps9
  go_wp2_with fail
  refine (bring_any x0 3 hxb.1 hxb.2 (by omega) (by omega) _).mono ?_; rintro e w' ⟨rfl, rfl⟩
  rw [HP.out]
  go_wp2_with fail
  refine (newL_any id _ hid0 hid1).mono ?_; intro e w1 hq; obtain ⟨p, F1, rfl, h1⟩ := lOn.start (keepBut.refl [] w) hq; clear hq
  go_wp2_with fail
  refine (start_yes p F1 _ 0 1 _ h1.1 ⟨hid0, hid1, by simp [LS.new], by simp [LS.new], by simp [LS.new], by simp [LS.new]⟩ (by omega) (by omega) (by omega) (by omega)).mono ?_; rintro e w3 ⟨rfl, hl⟩; obtain ⟨F3, h3⟩ := h1.step hl; clear hl h1
  rw [show (LS.new id).start 0 1 = (b, 0, ⟨id, 1, b, 1, 0, [], false, CS.zero, 0⟩) by rw [HB.out]; rfl] at h3 ⊢
  rw [show (⟨id, 1, b, 1, 0, [], false, CS.zero, 0⟩ : LS) = pS b id 0 from rfl] at h3
  have h4 := cOn.new h3 (hadRow 0)
  have H4 := Lib.hid h4
  clear h3 h4
  go_wp2_with fail
  go_loopw [12, 13] (fun v12 v13 wx => cntRel w b id p w3.heap.size n1 v12 v13 wx) (fun _ v13 _ => n1 - (intOf v13).toNat)
  case atStart => exact ⟨0, 0, F3, by omega, by omega, by omega, by decide, rfl, rfl, H4.out⟩
  case round =>
    obtain ⟨i, m, F, hi, hi20, hm7, hm2, rfl, rfl, hs⟩ := hrel
    clear H4
    by_cases hlt : i < n1 ∧ i < 20 ∧ countOf m < 2
    · obtain ⟨hlt1, hlt2, hlt3⟩ := hlt
      have hlt1' : (i : Int) < (n1 : Int) := by omega
      have hlt2' : (i : Int) < 20 := by omega
      obtain ⟨z, hz⟩ : ∃ z, xs[i]? = some z := ⟨xs[i]'(by have := HXL1.out; omega), by simp⟩
      have hzb : -9223372036854775808 ≤ z ∧ z ≤ 9223372036854775807 := by
        have := HX1.out.2 z (List.mem_of_getElem? hz)
        simpa [Lit.wf, IntKind.min, IntKind.max, IntKind.signed, IntKind.bits] using this
      obtain ⟨o, rfl, hkl, hcells⟩ := HX1.out.1.2 (by omega)
      have hc0 := (hs.1.2.2.cell (p := ⟨k1, o + i, none⟩) hkl (by simp)).trans (hcells i (.int .i64 z) (by simp [cellsK, hz]))
      obtain ⟨who, hw⟩ : ∃ who : Nat, z % 3 = (who : Int) := ⟨(z % 3).toNat, by have := Int.emod_nonneg z (show (3 : Int) ≠ 0 by omega); omega⟩
      have hw3 : who < 3 := by have := Int.emod_lt_of_pos z (show (0 : Int) < 3 by omega); omega
      have hw3' : (who : Int) < 3 := by omega
      rw [pS_lt hlt3] at hs
      have hcase := had_cases m hm7 who hw3 hlt3
      have hr := (hs.2.1.cell who).trans (hadRow_at m who hw3)
      have hfr := hs.2.1.free who
      have hs2 := hs.set who (.bool true)
      rw [hadRow_set m who hm7 hw3] at hs2
      have HW := Lib.hid hw
      have HS := Lib.hid hs
      have HS2 := Lib.hid hs2
      clear hw hs hz hcells hs2
      rcases hcase with ⟨q1, q2, q3⟩ | ⟨q1, q2, q3⟩ | ⟨q1, q2, q3⟩
      all_goals
        rw [q1] at hr
        rw [q2]
        have HQ := Lib.hid (And.intro q1 (And.intro q2 q3))
        clear q1 q2 q3 hlt3 hm2
        go_wp2_with fail
        refine (bring_any z 3 hzb.1 hzb.2 (by omega) (by omega) _).mono ?_; rintro e w' ⟨rfl, rfl⟩
        rw [HW.out]
        go_wp2_with fail
        refine (promise_yes p F [] _ who (.slice none 0 0) [] _ HS2.out.1.1 ⟨hid0, hid1, by simp; omega, by simp; omega, by simpa using hm7, by simp⟩ hw3 rfl (votesV.nil _ _) (by simp)).mono ?_
        rintro e w5 ⟨rfl, hl⟩
        obtain ⟨F5, h5⟩ := HS2.out.l hl
        clear hl
        rw [pS_step] at h5 ⊢
        have HQ3 := HQ.out.2.2
        have H5 := Lib.hid h5
        clear h5
        rw [HQ3]
      iterate 2
        · have hph : (pS b id (orB m who)).ph = 1 := by rw [pS_lt (by omega)]
          have HPH := Lib.hid hph
          clear hph HQ3
          rw [show decide (2 ≤ 1) = false from rfl]
          go_wp2_with fail
          refine (phaseL_any p F5 _ _ H5.out.1.1).mono ?_; rintro e w6 ⟨rfl, rfl⟩
          rw [HPH.out]
          go_wp2_with fail
          go_roundw
          case rel => exact ⟨i + 1, orB m who, F5, by omega, by omega, orB_le m hm7 who hw3, by rw [HQ.out.2.2]; omega, by rw [HQ.out.2.2]; rfl, by go_num, H5.out⟩
          case measure => simp [intOf]; omega
      · have hph : (pS b id (orB m who)).ph = 2 := by rw [pS_ge (by omega)]
        have HPH := Lib.hid hph
        clear hph HQ3
        rw [show decide (2 ≤ 2) = true from rfl]
        go_wp2_with fail
        refine (phaseL_any p F5 _ _ H5.out.1.1).mono ?_; rintro e w6 ⟨rfl, rfl⟩
        rw [HPH.out]
        go_wp2_with fail
        go_roundw
        case rel => exact ⟨i + 1, orB m who, F5, by omega, by omega, orB_le m hm7 who hw3, by rw [HQ.out.2.2]; omega, by rw [HQ.out.2.2]; rfl, by go_num, H5.out⟩
        case measure => simp [intOf]; omega
    · by_cases hc : countOf m < 2
      · have hor : ¬ (i : Int) < (n1 : Int) ∨ ((i : Int) < (n1 : Int) ∧ ¬ (i : Int) < 20) := by omega
        have hcc : ((countOf m : Nat) : Int) < 2 := by omega
        rw [pS_lt hc] at hs
        have HS := Lib.hid hs
        clear hs
        rcases hor with hor | ⟨hor, hor2⟩
        all_goals
          go_wp2_with fail
          refine (conf_any 1 10 _).mono ?_; intro e w4 hq; obtain ⟨A4, n4, G4, rfl, hh4, hG4, hk4⟩ := hq.arg; clear hq
          have HS4 := Lib.hid (HS.out.over hk4)
          clear hk4 hh4 hG4
          go_wp2_with fail
          refine (propose_no p F _ ⟨1, 1, [10]⟩ A4 _ n4 _ HS4.out.1.1 170 (.inl ⟨.inl (by simp), rfl⟩)).mono ?_; intro e w5 hq; obtain ⟨A5, n5, F5, rfl, h5⟩ := HS4.out.prop hq; clear hq
          have HK := Lib.hid (h5.1.2.2.alloc (.cells #[.int .i64 0, .int .i64 0, .slice A5 0 n5] 55))
          clear h5
          go_wp2_with fail
          refine (works_any _).mono ?_; rintro e w6 ⟨rfl, hkw⟩
          have HKW := Lib.hid (HK.out.then hkw (by simp))
          clear hkw
          go_wp2_with fail
          go_ret
          exact ⟨rfl, HKW.out⟩
      · have hc2 : countOf m = 2 := by omega
        have hor : ¬ (i : Int) < (n1 : Int) ∨ ((i : Int) < (n1 : Int) ∧ ¬ (i : Int) < 20) ∨ ((i : Int) < (n1 : Int) ∧ (i : Int) < 20) := by omega
        rw [pS_ge hc2] at hs
        rw [hc2]
        have HS := Lib.hid hs
        clear hs hc hlt hm2
        have HC2 := Lib.hid hc2
        have HM7 := Lib.hid hm7
        clear hc2 hm7 hi hi20
        rcases hor with hor | ⟨hor, hor2⟩ | ⟨hor, hor2⟩
        all_goals
          go_wp2_with fail
          refine (conf_any 1 10 _).mono ?_; intro e w4 hq; obtain ⟨A4, n4, G4, rfl, hh4, hG4, hk4⟩ := hq.arg; clear hq
          have HS4 := Lib.hid (HS.out.over hk4)
          have hF := HS.out.1.1.lt
          go_wp2_with fail
          refine (propose_yes p F G4 _ ⟨1, 1, [10]⟩ (.slice A4 1 n4) _ HS4.out.1.1 hh4 (fun y hy => ⟨fun hm => absurd (hF _ hm) (Nat.not_lt.mpr (hG4 y hy).1), (hG4 y hy).2⟩) rfl rfl (by simp)).mono ?_; intro e w5 hq; obtain ⟨A5, n5, F5, rfl, h5⟩ := HS4.out.prop hq; clear hq hk4 hh4 hG4 hF
          rw [show LS.propose ⟨id, 2, b, 1, m, [], false, CS.zero, 0⟩ ⟨1, 1, [10]⟩ = (0, ⟨1, 1, [10]⟩, ⟨id, 2, b, 1, m, [], true, one10, 0⟩) from rfl] at h5 ⊢
          have h6 := h5.over ((keepBut.refl [] w5).alloc (.cells #[.int .i64 1, .int .i64 1, .slice A5 1 n5] 55))
          have f0 := h6.2.1.free 0
          have f1 := h6.2.1.free 1
          have f2 := h6.2.1.free 2
          have c0 := h6.2.1.cell 0
          have c1 := (h6.set 0 (.bool false)).2.1.cell 1
          have c2 := ((h6.set 0 (.bool false)).set 1 (.bool false)).2.1.cell 2
          have f1' := (h6.set 0 (.bool false)).2.1.free 1
          have f2' := ((h6.set 0 (.bool false)).set 1 (.bool false)).2.1.free 2
          rw [show (hadRow m)[0]? = some (.bool (hadB m 0)) from rfl] at c0
          rw [show ((hadRow m).setIfInBounds 0 (.bool false))[1]? = some (.bool (hadB m 1)) by simp [hadRow]] at c1
          rw [show (((hadRow m).setIfInBounds 0 (.bool false)).setIfInBounds 1 (.bool false))[2]? = some (.bool (hadB m 2)) by simp [hadRow]] at c2
          have h7 : cOn w _ p F5 w3.heap.size (yS b id m 0) _ := ((h6.set 0 (.bool false)).set 1 (.bool false)).set 2 (.bool false)
          rw [show (((hadRow m).setIfInBounds 0 (.bool false)).setIfInBounds 1 (.bool false)).setIfInBounds 2 (.bool false) = hadRow 0 by simp [hadRow]; decide] at h7
          have H6 := Lib.hid h7
          clear h5 h6 h7
          go_wp2_with fail
          go_loopw [12, 21] (fun v12 v21 wx => cntRel2 w b id m p w3.heap.size n2 v12 v21 wx) (fun _ v21 _ => n2 - (intOf v21).toNat)
          case atStart => exact ⟨0, 0, F5, by omega, by omega, by omega, by decide, rfl, rfl, H6.out⟩
          case round =>
            obtain ⟨i, m2, F, hi, hi20, hm7, hm2, rfl, rfl, hs⟩ := hrel
            clear H6 f0 f1 f2 c0 c1 c2 f1' f2'
            by_cases hlt : i < n2 ∧ i < 20 ∧ countOf m2 < 2
            · obtain ⟨hlt1, hlt2, hlt3⟩ := hlt
              have hlt1' : (i : Int) < (n2 : Int) := by omega
              have hlt2' : (i : Int) < 20 := by omega
              obtain ⟨z, hz⟩ : ∃ z, ys[i]? = some z := ⟨ys[i]'(by have := HXL2.out; omega), by simp⟩
              have hzb : -9223372036854775808 ≤ z ∧ z ≤ 9223372036854775807 := by
                have := HX2.out.2 z (List.mem_of_getElem? hz)
                simpa [Lit.wf, IntKind.min, IntKind.max, IntKind.signed, IntKind.bits] using this
              obtain ⟨o, rfl, hkl, hcells⟩ := HX2.out.1.2 (by omega)
              have hc0 := (hs.1.2.2.cell (p := ⟨k2, o + i, none⟩) hkl (by simp)).trans (hcells i (.int .i64 z) (by simp [cellsK, hz]))
              obtain ⟨who, hw⟩ : ∃ who : Nat, z % 3 = (who : Int) := ⟨(z % 3).toNat, by have := Int.emod_nonneg z (show (3 : Int) ≠ 0 by omega); omega⟩
              have hw3 : who < 3 := by have := Int.emod_lt_of_pos z (show (0 : Int) < 3 by omega); omega
              have hw3' : (who : Int) < 3 := by omega
              rw [yS_lt hlt3] at hs
              have hcase := had_cases m2 hm7 who hw3 hlt3
              have hr := (hs.2.1.cell who).trans (hadRow_at m2 who hw3)
              have hfr := hs.2.1.free who
              have hs2 := hs.set who (.bool true)
              rw [hadRow_set m2 who hm7 hw3] at hs2
              have HW := Lib.hid hw
              have HS := Lib.hid hs
              have HS2 := Lib.hid hs2
              clear hw hs hz hcells hs2
              rcases hcase with ⟨q1, q2, q3⟩ | ⟨q1, q2, q3⟩ | ⟨q1, q2, q3⟩
              all_goals
                rw [q1] at hr
                rw [q2]
                have HQ := Lib.hid (And.intro q1 (And.intro q2 q3))
                clear q1 q2 q3 hlt3 hm2
                go_wp2_with fail
                refine (bring_any z 3 hzb.1 hzb.2 (by omega) (by omega) _).mono ?_; rintro e w' ⟨rfl, rfl⟩
                rw [HW.out]
                go_wp2_with fail
                refine (yes_yes p F _ who _ HS2.out.1.1 ⟨hid0, hid1, by simp; omega, by simp; omega, by simpa using HM7.out, by simpa using hm7⟩ hw3 rfl rfl).mono ?_
                intro e w5 hq
                obtain ⟨rfl, h5⟩ := HS2.out.w hq
                clear hq
                rw [yS_step] at h5 ⊢
                have HQ3 := HQ.out.2.2
                have H5 := Lib.hid h5
                clear h5
                rw [HQ3]
                first | rw [show decide (2 ≤ 1) = false from rfl] | rw [show decide (2 ≤ 2) = true from rfl]
                clear HQ3
                go_wp2_with fail
                go_roundw
                case rel => exact ⟨i + 1, orB m2 who, F, by omega, by omega, orB_le m2 hm7 who hw3, by rw [HQ.out.2.2]; omega, by rw [HQ.out.2.2]; rfl, by go_num, H5.out⟩
                case measure => simp [intOf]; omega
            · by_cases hc : countOf m2 < 2
              · have hor : ¬ (i : Int) < (n2 : Int) ∨ ((i : Int) < (n2 : Int) ∧ ¬ (i : Int) < 20) := by omega
                have hcc : ((countOf m2 : Nat) : Int) < 2 := by omega
                rw [yS_lt hc] at hs
                have HS := Lib.hid hs
                clear hs
                rcases hor with hor | ⟨hor, hor2⟩
                all_goals
                  go_wp2_with fail
                  refine (pending_yes p F _ _ HS.out.1.1 rfl).mono ?_; intro e w4 hq; obtain ⟨A4, n4, rfl, hk4⟩ := hq.out; clear hq
                  have HK := Lib.hid ((HS.out.1.2.2.then hk4 (by simp)).alloc (.cells #[.int .i64 1, .int .i64 1, .slice A4 1 n4] 55))
                  clear hk4
                  go_wp2_with fail
                  refine (works_any _).mono ?_; rintro e w6 ⟨rfl, hkw⟩
                  have HKW := Lib.hid (HK.out.then hkw (by simp))
                  clear hkw
                  go_wp2_with fail
                  go_ret
                  exact ⟨rfl, HKW.out⟩
              · have hc2 : countOf m2 = 2 := by omega
                have hor : ¬ (i : Int) < (n2 : Int) ∨ ((i : Int) < (n2 : Int) ∧ ¬ (i : Int) < 20) ∨ ((i : Int) < (n2 : Int) ∧ (i : Int) < 20) := by omega
                rw [yS_ge hc2] at hs
                rw [hc2]
                have HS := Lib.hid hs
                clear hs hc hlt hm2 hc2
                rcases hor with hor | ⟨hor, hor2⟩ | ⟨hor, hor2⟩
                all_goals
                  go_wp2_with fail
                  refine (pending_no p F _ _ HS.out.1.1 rfl).mono ?_; intro e w4 hq; obtain ⟨A4, n4, rfl, hk4⟩ := hq.out; clear hq
                  have HK := Lib.hid ((HS.out.1.2.2.then hk4 (by simp)).alloc (.cells #[.int .i64 0, .int .i64 0, .slice A4 0 n4] 55))
                  clear hk4
                  go_wp2_with fail
                  refine (works_any _).mono ?_; rintro e w6 ⟨rfl, hkw⟩
                  have HKW := Lib.hid (HK.out.then hkw (by simp))
                  clear hkw
                  go_wp2_with fail
                  go_ret
                  exact ⟨rfl, HKW.out⟩
end Go.Proofs.Ytbjonlfjfjlelaa
