/-
  SESSCONFS: its walk.
-/
import Derived.Test.YtkpmlcgbffdloaaDoorSessAgain
import Derived.Test.YtkpmlcgbffdloaaDoorSessConfsPure
import Derived.Test.YtkpmlcgbffdloaaDoorOpen
import Derived.Deep.RegionHeld3
import Derived.Laws.Cover1
namespace Go.Proofs.YtkpmlcgbffdloaaDoor
open Go.RowKit
set_option linter.unusedVariables false
set_option maxRecDepth 100000
set_option linter.unusedSimpArgs false

theorem quo_bounds (x : Int) (h : -9223372036854775808 ≤ x) (h' : x ≤ 9223372036854775807) : -9223372036854775808 ≤ x.tdiv 30 ∧ x.tdiv 30 ≤ 9223372036854775807 := by
  have e := Int.mul_tdiv_add_tmod x 30
  have a := Int.tmod_lt_of_pos x (show (0 : Int) < 30 by decide)
  have b := Int.lt_tmod_of_pos x (show (0 : Int) < 30 by decide)
  omega
def csRel (m : Int → Prop) (w : World) (p q : Nat) (v5 v6 : Value) (wx : World) : Prop :=
  ∃ (i tk : Nat) (kn : Int) (cf : CF) (b : Bool), v5 = .int .i64 kn ∧ v6 = .int .i64 (i : Int) ∧ Hid ((i ≤ 40 ∧ tk ≤ 2 * i ∧ -1 ≤ kn ∧ kn ≤ 29) ∧ ((kn = -1 ∧ cf = cfZero ∧ b = false) ∨ (b = true ∧ cf.num = kn ∧ cf.chain ≠ []))) ∧ Hid (lawQ w [] wx p q (csS tk cf b))
set_option maxHeartbeats 16000000 in
theorem sessConfs_law (A : Option Addr) (g n c : Nat) (xs : List Int) (w : World) (hr : reads w A g n 1 (cellsK .i64 xs)) (hn : n ≤ c) (hc : c ≤ maxLen) (hw : ∀ x ∈ xs, (Lit.int .i64 x).wf = true) (hsz : sizesAt w) :
    Calls Tryd.prog 5 #[.slice A n c] w fun e w' => e = .returned (.bool true) ∧ keepBut [] w w' := by
  have hnm : n ≤ 9223372036854775807 := by unfold maxLen at hc; omega
  have HSZ := Lib.hid hsz
  have HR := Lib.hid (And.intro hr hw)
  clear hr hw hn hc hsz
  go_enter Tryd.func5, Tryd.ntmps5
  go_wp2_with (first
    | (go_at_call 14; (refine (begun_any [] 1000 100000 w _ (keepBut.refl _ _) HSZ.out (by simp) (by decide) (by decide)).mono ?_); rintro e w3 ⟨p, q, rfl, h3, _, _, _⟩; rw [cs_start] at h3; have H3 := Lib.hid h3; clear h3))
  go_loopw [5, 6, 7, 8, 9, 10] (fun v5 v6 v7 v8 v9 v10 wx => csRel (fun _ => True) w p q v5 v6 wx) (fun _ v6 _ _ _ _ _ => 100 - (intOf v6).toNat)
  case atStart => exact ⟨0, 0, -1, cfZero, false, rfl, rfl, Lib.hid ⟨by omega, .inl ⟨rfl, rfl, rfl⟩⟩, H3⟩
  case round =>
    clear H3
    obtain ⟨i, tk, kn, cf, b, rfl, rfl, HI, HQ⟩ := hrel
    by_cases hi : i < 40 ∧ i < n
    · obtain ⟨hi40, hin⟩ := hi
      have h1 : (i : Int) < (n : Int) := by omega
      have h2 : (i : Int) < 40 := by omega
      have d2 : decide ((i : Int) < 40) = true := by simpa using h2
      have hwi : IntKind.i64.wrap ((i : Int) + 1) = (i : Int) + 1 := by rw [IntKind.wrap_i64]; omega
      obtain ⟨x, hx⟩ : ∃ x, xs[i]? = some x := by
        have hl : (cellsK .i64 xs).length = n * 1 := HR.out.1.1
        simp [cellsK] at hl
        exact ⟨xs[i], List.getElem?_eq_getElem (by omega)⟩
      obtain ⟨o, rfl, hg, hcell⟩ := HR.out.1.2 (by omega)
      have cx0 := hcell i (.int .i64 x) (by simp [cellsK, hx])
      have cx : wr.cell? ⟨g, o + i, none⟩ = some (.int .i64 x) := (HQ.out.kept.cell (p := ⟨g, o + i, none⟩) hg (by simp)).trans cx0
      have hwf := HR.out.2 x (List.mem_of_getElem? hx)
      simp [Lit.wf, IntKind.min, IntKind.max, IntKind.signed, IntKind.bits] at hwf
      have hqb := quo_bounds x hwf.1 hwf.2
      have hN0 := Int.emod_nonneg x (show (30 : Int) ≠ 0 by decide)
      have hN1 := Int.emod_lt_of_pos x (show (0 : Int) < 30 by decide)
      have hH0 := Int.emod_nonneg (x.tdiv 30) (show (4 : Int) ≠ 0 by decide)
      have hH1 := Int.emod_lt_of_pos (x.tdiv 30) (show (0 : Int) < 4 by decide)
      have hwq : IntKind.i64.wrap (x.tdiv 30) = x.tdiv 30 := by rw [IntKind.wrap_i64]; omega
      have hwq2 : wrap64 (x.tdiv 30) = x.tdiv 30 := by unfold wrap64; omega
      have B0 := Lib.hid (fun W => bring_any x 30 hwf.1 hwf.2 (by decide) (by decide) W)
      have B1 := Lib.hid (fun W => bring_any (x.tdiv 30) 4 hqb.1 hqb.2 (by decide) (by decide) W)
      obtain ⟨y, hy⟩ : ∃ y, x.tdiv 30 = y := ⟨_, rfl⟩
      rw [hy] at hqb hH0 hH1 hwq hwq2 B1
      generalize x % 30 = nn at *
      generalize y % 4 = hh at *
      have hwh : IntKind.i64.wrap (10 + hh) = 10 + hh := by rw [IntKind.wrap_i64]; omega
      have HB := Lib.hid (And.intro (And.intro hN0 hN1) (And.intro (And.intro hH0 hH1) (And.intro hi40 hin)))
      clear hN0 hN1 hH0 hH1 hi40 hin hwf hqb hcell hg cx0 hx
      go_upto_region 8 with fail
      go_region_held3 (fun W => W.cell? ⟨g, o + i, none⟩ = some (.int .i64 x)) (first | exact cx | go_keep)
        (first
        | (go_at_call 16; (with_reducible refine (B0.out _).mono ?_); rintro e w' ⟨rfl, rfl⟩)
        | (go_at_call 16; (with_reducible refine (B1.out _).mono ?_); rintro e w' ⟨rfl, rfl⟩))
      have HQ1 := Lib.hid (HQ.out.over ((keepBut.refl [] wr).drew))
      generalize wr.drew = w1 at HQ1 ⊢
      clear HQ cx
      go_upto_region 10 with (first
        | (go_at_call 21; (refine (confF_any 21 99 [13] _ [w1.heap.size] _ (ints1 w1 13)).mono ?_); rintro e w2 ⟨rfl, k2⟩; have HC := Lib.hid ((HQ1.out.over ((keepBut.refl [] w1).alloc _)).over k2); have HV := Lib.hid (And.intro ((ints1 w1 13).keep k2 (by simp)) HQ1.out.on.lt.1); clear k2 HQ1)
        | (go_at_call 17; (refine (HC.out.take (confK_val 21 99 HV.out.1) (fun y hy => by have := HV.out.2; simp only [List.mem_singleton] at hy; omega) (by show (0 : Nat) ≤ 1000000; omega) (by show (1 : Nat) ≤ 1000000; omega) (cs_stray tk cf b 99 [13])).mono ?_); rintro e w3 ⟨av, G', rfl, _, _, h3, _⟩; have HQ2 := Lib.hid h3; clear h3 HC HV))
      have hwA : IntKind.i64.wrap (10 + hh + 1) = 10 + hh + 1 := by rw [IntKind.wrap_i64]; have := HB.out; omega
      have hmA : (10 + hh + 1).tmod 4 = (10 + hh + 1) % 4 := Int.tmod_eq_emod_of_nonneg (by have := HB.out; omega)
      have hwB : IntKind.i64.wrap (10 + (10 + hh + 1) % 4) = 10 + (10 + hh + 1) % 4 := by rw [IntKind.wrap_i64]; omega
      obtain ⟨hd, hhd⟩ : ∃ hd, 10 + hh = hd := ⟨_, rfl⟩
      have HH := Lib.hid (show hd ≠ 0 ∧ 10 ≤ hd ∧ hd ≤ 13 by have := HB.out; omega)
      simp only [hhd] at hwh hwA hmA hwB ⊢
      clear hhd
      by_cases hnew : kn < nn
      · have HE : Hid (cf.num < nn ∨ cf.chain = []) := Lib.hid (by
          rcases HI.out.2 with ⟨_, h, _⟩ | ⟨_, h, _⟩
          · right; rw [h]; rfl
          · left; omega)
        have dn : decide (kn < nn) = true := by simpa using hnew
        have hmx : max kn nn = nn := by omega
        go_upto_region 11 with (first
          | (go_at_call 21; (refine (confF_any 22 nn [hd, 10 + (hd + 1) % 4] _ [w3.heap.size] _ (ints2 w3 hd (10 + (hd + 1) % 4))).mono ?_); rintro e w4 ⟨rfl, k4⟩; have HC := Lib.hid ((HQ2.out.over ((keepBut.refl [] w3).alloc _)).over k4); have HV := Lib.hid (And.intro ((ints2 w3 hd (10 + (hd + 1) % 4)).keep k4 (by simp)) HQ2.out.on.lt.1); clear k4)
          | (go_at_call 17; (refine (HC.out.take (confK_val 22 nn HV.out.1) (fun y hy => by have := HV.out.2; simp only [List.mem_singleton] at hy; omega) (by show (0 : Nat) ≤ 1000000; omega) (by show (2 : Nat) ≤ 1000000; omega) (cs_learn tk cf b nn [hd, 10 + (hd + 1) % 4] HE.out)).mono ?_); rintro e w5 ⟨av, G', rfl, _, _, h5, _⟩; have HQ3 := Lib.hid h5; clear h5 HC HV HQ2))
        obtain ⟨Z, hZ⟩ : ∃ Z, cfL cfZero nilV = Z := ⟨_, rfl⟩
        have HZ := Lib.hid (show (Tryd.prog.info? 41).bind (·.zero) = some (.agg Z.toArray) ∧ Z.length = 3 by rw [← hZ]; exact ⟨zv_cf, rfl⟩)
        clear hZ
        go_upto_region 12 with (first
          | (go_at_call 22; (refine HQ3.out.on.conf.mono ?_); rintro e w6 ⟨cv', G6, rfl, hv6, hG6, k6⟩; have HQ4 := Lib.hid (HQ3.out.over k6); obtain ⟨X, hX⟩ : ∃ X, cfL (csS tk ⟨nn, 1, [hd, 10 + (hd + 1) % 4]⟩ false).conf cv' = X := ⟨_, rfl⟩; have HX := Lib.hid (And.intro hX (And.intro (show X.length = 3 by rw [← hX]; rfl) (And.intro (show ∀ u ∈ X, u.oneCell' = true by rw [← hX]; exact cfL_one _ hv6.one) hv6))); rw [hX]; clear hX k6 hG6 hv6 HQ3)
          | (with_reducible refine wpList_alloc_to _ _ rfl 41 rfl _ HZ.out.1 rfl ?_)
          | (refine wpList_store_mid rfl 41 (.tmp 9) (.tmp 54) rfl w6.heap.size 0 X.toArray rfl rfl (there_newP (by rw [HX.out.2.1, HZ.out.2])) (by rw [List.size_toArray, HX.out.2.1]; exact info_cf) (by simpa using HX.out.2.2.1) ?_))
        have hs := storedP (w := w6) (t := 41) (Z := Z) (X := X) (by rw [HX.out.2.1, HZ.out.2])
        generalize hw7 : (w6.alloc (.cells Z.toArray 41)).setCells w6.heap.size 0 X = w7 at hs ⊢
        generalize hc6 : w6.heap.size = c6 at hs ⊢
        have HQ5 := Lib.hid (HQ4.out.over hs.2)
        have y0 : w7.cell? ⟨c6, 0, none⟩ = some (.int .i64 ((⟨nn, 1, [hd, 10 + (hd + 1) % 4]⟩ : CF)).num) := by rw [hs.1.cell, ← HX.out.1]; rfl
        have y2 : w7.cell? ⟨c6, 2, none⟩ = some cv' := by rw [hs.1.cell, ← HX.out.1]; rfl
        have HV7 := Lib.hid (HX.out.2.2.2.keep hs.2 (by simp))
        clear hs hw7 hc6 HQ4
        obtain ⟨A7, c7, g7, rfl, _, _, hr7, _⟩ := HV7.out
        obtain ⟨o7, rfl, hg7, hcell7⟩ := hr7.2 (by show 0 < 2; omega)
        have y3 : w7.cell? ⟨g7, o7, none⟩ = some (.int .i64 hd) := by have := hcell7 0 (.int .i64 hd) rfl; simpa using this
        clear hcell7 hg7 hr7
        replace y0 : w7.cell? ⟨c6, 0, none⟩ = some (.int .i64 nn) := y0
        replace y2 : w7.cell? ⟨c6, 2, none⟩ = some (.slice (some ⟨g7, o7, none⟩) 2 c7) := y2
        have HTK := Lib.hid (show tk + 1 ≤ 200 by have := HI.out.1; omega)
        go_wp2_with (first
          | (go_at_call 24; first
             | ((refine (HQ5.out.tick (cs_fresh tk nn 1 hd [10 + (hd + 1) % 4] (by have := HTK.out; omega))).mono ?_); rintro e w8 ⟨v, D, K, rfl, hs, h8, _⟩; have HQ6 := Lib.hid h8; have HV1 := Lib.hid hs; clear hs h8 HQ5)
             | ((refine (HQ6.out.tick (cs_quiet (tk + 1) ⟨nn, 1, [hd, 10 + (hd + 1) % 4]⟩ (by simp) HTK.out)).mono ?_); rintro e w9 ⟨v, D, K, rfl, hs, h9, _⟩; have HQ7 := Lib.hid h9; have HV2 := Lib.hid hs; clear hs h9 HQ6))
          | (go_at_call 23; first
             | ((refine (HV1.out.sends (b := true) (cs_send1 hd HH.out.1) (by simp)).mono ?_); rintro e w10 ⟨rfl, rfl⟩; clear HV1)
             | ((refine (HV2.out.sends (b := true) cs_send0 (by decide)).mono ?_); rintro e w10 ⟨rfl, rfl⟩; clear HV2)))
        go_roundw
        case rel => exact ⟨i + 1, tk + 2, nn, _, true, by go_num, by go_num, Lib.hid ⟨by have := HI.out.1; have := HB.out; omega, .inr ⟨rfl, rfl, by simp⟩⟩, HQ7⟩
        case measure => simp only [intOf]; omega
      · have HE := Lib.hid (show b = true ∧ cf.num = kn ∧ cf.chain ≠ [] by
          rcases HI.out.2 with ⟨h, _, _⟩ | h
          · have := HB.out; omega
          · exact h)
        have HN := Lib.hid (show ¬ (cf.num < nn ∨ cf.chain = []) by rintro (h | h); (have := HE.out.2.1; omega); exact HE.out.2.2 h)
        have dn : decide (kn < nn) = false := by simpa using hnew
        have hmx : max kn nn = kn := by omega
        have hxn : ¬ kn < nn := hnew
        go_upto_region 11 with (first
          | (go_at_call 21; (refine (confF_any 22 nn [hd, 10 + (hd + 1) % 4] _ [w3.heap.size] _ (ints2 w3 hd (10 + (hd + 1) % 4))).mono ?_); rintro e w4 ⟨rfl, k4⟩; have HC := Lib.hid ((HQ2.out.over ((keepBut.refl [] w3).alloc _)).over k4); have HV := Lib.hid (And.intro ((ints2 w3 hd (10 + (hd + 1) % 4)).keep k4 (by simp)) HQ2.out.on.lt.1); clear k4)
          | (go_at_call 17; (refine (HC.out.take (confK_val 22 nn HV.out.1) (fun y hy => by have := HV.out.2; simp only [List.mem_singleton] at hy; omega) (by show (0 : Nat) ≤ 1000000; omega) (by show (2 : Nat) ≤ 1000000; omega) (cs_old tk cf b nn [hd, 10 + (hd + 1) % 4] HN.out)).mono ?_); rintro e w5 ⟨av, G', rfl, _, _, h5, _⟩; have HQ3 := Lib.hid h5; clear h5 HC HV HQ2))
        obtain ⟨Z, hZ⟩ : ∃ Z, cfL cfZero nilV = Z := ⟨_, rfl⟩
        have HZ := Lib.hid (show (Tryd.prog.info? 41).bind (·.zero) = some (.agg Z.toArray) ∧ Z.length = 3 by rw [← hZ]; exact ⟨zv_cf, rfl⟩)
        clear hZ
        go_upto_region 12 with (first
          | (go_at_call 22; (refine HQ3.out.on.conf.mono ?_); rintro e w6 ⟨cv', G6, rfl, hv6, hG6, k6⟩; have HQ4 := Lib.hid (HQ3.out.over k6); obtain ⟨X, hX⟩ : ∃ X, cfL (csS tk cf b).conf cv' = X := ⟨_, rfl⟩; have HX := Lib.hid (And.intro hX (And.intro (show X.length = 3 by rw [← hX]; rfl) (And.intro (show ∀ u ∈ X, u.oneCell' = true by rw [← hX]; exact cfL_one _ hv6.one) hv6))); rw [hX]; clear hX k6 hG6 hv6 HQ3)
          | (with_reducible refine wpList_alloc_to _ _ rfl 41 rfl _ HZ.out.1 rfl ?_)
          | (refine wpList_store_mid rfl 41 (.tmp 9) (.tmp 54) rfl w6.heap.size 0 X.toArray rfl rfl (there_newP (by rw [HX.out.2.1, HZ.out.2])) (by rw [List.size_toArray, HX.out.2.1]; exact info_cf) (by simpa using HX.out.2.2.1) ?_))
        have hs := storedP (w := w6) (t := 41) (Z := Z) (X := X) (by rw [HX.out.2.1, HZ.out.2])
        generalize hw7 : (w6.alloc (.cells Z.toArray 41)).setCells w6.heap.size 0 X = w7 at hs ⊢
        generalize hc6 : w6.heap.size = c6 at hs ⊢
        have HQ5 := Lib.hid (HQ4.out.over hs.2)
        have y0 : w7.cell? ⟨c6, 0, none⟩ = some (.int .i64 cf.num) := by rw [hs.1.cell, ← HX.out.1]; rfl
        have y2 : w7.cell? ⟨c6, 2, none⟩ = some cv' := by rw [hs.1.cell, ← HX.out.1]; rfl
        have HV7 := Lib.hid (HX.out.2.2.2.keep hs.2 (by simp))
        clear hs hw7 hc6 HQ4
        have HTK := Lib.hid (show tk + 1 ≤ 200 by have := HI.out.1; omega)
        have HQ5b := Lib.hid (show lawQ w [] w7 p q (csS tk cf true) by have := HQ5.out; rwa [HE.out.1] at this)
        replace y0 : w7.cell? ⟨c6, 0, none⟩ = some (.int .i64 kn) := by rw [y0, HE.out.2.1]
        go_wp2_with (first
          | (go_at_call 24; (refine (HQ5b.out.tick (cs_quiet tk cf HE.out.2.2 (by have := HTK.out; omega))).mono ?_); rintro e w9 ⟨v, D, K, rfl, hs, h9, _⟩; have HQ7 := Lib.hid h9; have HV2 := Lib.hid hs; clear hs h9 HQ5b)
          | (go_at_call 23; (refine (HV2.out.sends (b := true) cs_send0 (by decide)).mono ?_); rintro e w10 ⟨rfl, rfl⟩; clear HV2))
        go_roundw
        case rel => exact ⟨i + 1, tk + 1, kn, cf, true, rfl, by go_num, Lib.hid ⟨by have := HI.out.1; have := HB.out; omega, .inr ⟨rfl, HE.out.2⟩⟩, HQ7⟩
        case measure => simp only [intOf]; omega
    · have hor : ¬ (i : Int) < (n : Int) ∨ ((i : Int) < (n : Int) ∧ ¬ (i : Int) < 40) := by omega
      have HW := Lib.hid (worksQ_any wr HQ.out.sizes)
      have HK := Lib.hid HQ.out.kept
      clear hi HQ
      rcases hor with hor | ⟨hor, hor2⟩
      · go_wp2_with (first
          | (go_at_call 13; (with_reducible refine HW.out.mono ?_); rintro e w4 ⟨rfl, k4⟩))
        go_ret
        exact ⟨rfl, HK.out.then k4 (by simp)⟩
      · have d2 : decide ((i : Int) < 40) = false := by simpa using hor2
        go_wp2_with (first
          | (go_at_call 13; (with_reducible refine HW.out.mono ?_); rintro e w4 ⟨rfl, k4⟩))
        go_ret
        exact ⟨rfl, HK.out.then k4 (by simp)⟩
end Go.Proofs.YtkpmlcgbffdloaaDoor
