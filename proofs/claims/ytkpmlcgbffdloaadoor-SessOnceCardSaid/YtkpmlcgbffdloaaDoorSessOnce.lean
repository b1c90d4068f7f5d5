/-
  SESSONCE: its walk.
-/
import Derived.Test.YtkpmlcgbffdloaaDoorSessAgain
import Derived.Test.YtkpmlcgbffdloaaDoorSessOnceKit
import Derived.Test.YtkpmlcgbffdloaaDoorTrios
import Derived.Laws.Cover1
import Derived.Deep.RegionHeld3
import Derived.Deep.CutBlock
import Derived.Deep.DeepCutAuto
namespace Go.Proofs.YtkpmlcgbffdloaaDoor
open Go.RowKit
set_option linter.unusedVariables false
set_option maxRecDepth 100000
set_option linter.unusedSimpArgs false

set_option maxHeartbeats 16000000 in
theorem sessOnce_law (A : Option Addr) (n c : Nat) (w : World) (hr : trios w A n) (hn : n ≤ c) (hc : c ≤ maxLen) (hsz : sizesAt w) :
    Calls Tryd.prog 4 #[.slice A n c] w fun e w' => e = .returned (.bool true) ∧ keepBut [] w w' := by
  have hnm : n ≤ 9223372036854775807 := by unfold maxLen at hc; omega
  have HSZ := Lib.hid hsz
  have HR := Lib.hid hr
  clear hr hn hc hsz
  go_enter Tryd.func4, Tryd.ntmps4
  go_wp2_with (first
    | (go_at_call 14; (refine (begun_any [] 5 1000 w _ (keepBut.refl _ _) HSZ.out (by simp) (by decide) (by decide)).mono ?_); rintro e w3 ⟨p, q, rfl, h3, _, _, _⟩; rw [on_start] at h3; have H3 := Lib.hid h3; clear h3))
  go_loopw [5, 6, 7, 8, 9, 10, 11, 12] (fun v5 v6 v7 v8 v9 v10 v11 v12 wx => ∃ (i k : Nat) (r : RQ), v5 = .int .i64 (i : Int) ∧ Hid (i ≤ 60 ∧ k ≤ 1 + i ∧ 1 ≤ k) ∧ Hid (lawQ w [] wx p q (onS k r))) (fun v5 _ _ _ _ _ _ _ _ => 100 - (intOf v5).toNat)
  case atStart => exact ⟨0, 1, _, rfl, Lib.hid (by omega), H3⟩
  case round =>
    clear H3
    obtain ⟨i, k, r, rfl, HI, HQ⟩ := hrel
    by_cases hi : i < 60 ∧ i < n
    · obtain ⟨hi40, hin⟩ := hi
      have h1 : (i : Int) < (n : Int) := by omega
      have h2 : (i : Int) < 60 := by omega
      have d2 : decide ((i : Int) < 60) = true := by simpa using h2
      have hwi : IntKind.i64.wrap ((i : Int) + 1) = (i : Int) + 1 := by rw [IntKind.wrap_i64]; omega
      obtain ⟨g, o, rfl, hg, hall⟩ := HR.out (by omega)
      obtain ⟨x0, x1, x2, cx0, cx1, cx2, wf0, wf1, wf2⟩ := (hall i hin).keep hg HQ.out.kept
      simp [Lit.wf, IntKind.min, IntKind.max, IntKind.signed, IntKind.bits] at wf0 wf1 wf2
      have hA0 := Int.emod_nonneg x0 (show (3 : Int) ≠ 0 by decide)
      have hA1 := Int.emod_lt_of_pos x0 (show (0 : Int) < 3 by decide)
      have hB0 := Int.emod_nonneg x1 (show (3 : Int) ≠ 0 by decide)
      have hB1 := Int.emod_lt_of_pos x1 (show (0 : Int) < 3 by decide)
      have hC0 := Int.emod_nonneg x2 (show (4 : Int) ≠ 0 by decide)
      have hC1 := Int.emod_lt_of_pos x2 (show (0 : Int) < 4 by decide)
      have B0 := Lib.hid (fun W => bring_any x0 3 wf0.1 wf0.2 (by decide) (by decide) W)
      have B1 := Lib.hid (fun W => bring_any x1 3 wf1.1 wf1.2 (by decide) (by decide) W)
      have B2 := Lib.hid (fun W => bring_any x2 4 wf2.1 wf2.2 (by decide) (by decide) W)
      obtain ⟨y0, hy0⟩ : ∃ y, x0 % 3 = y := ⟨_, rfl⟩
      obtain ⟨y1, hy1⟩ : ∃ y, x1 % 3 = y := ⟨_, rfl⟩
      obtain ⟨y2, hy2⟩ : ∃ y, x2 % 4 = y := ⟨_, rfl⟩
      rw [hy0] at hA0 hA1 B0
      rw [hy1] at hB0 hB1 B1
      rw [hy2] at hC0 hC1 B2
      have HB := Lib.hid (And.intro (And.intro hA0 hA1) (And.intro (And.intro hB0 hB1) (And.intro (And.intro hC0 hC1) (And.intro hi40 (And.intro hin hg)))))
      have HX := Lib.hid (fun W (hk : keepBut [] wr W) => And.intro ((hk.cell (p := ⟨g, o + i * 3, none⟩) (Nat.lt_of_lt_of_le hg HQ.out.kept.size) (by simp)).trans cx0) (And.intro ((hk.cell (p := ⟨g, o + i * 3 + 1, none⟩) (Nat.lt_of_lt_of_le hg HQ.out.kept.size) (by simp)).trans cx1) ((hk.cell (p := ⟨g, o + i * 3 + 2, none⟩) (Nat.lt_of_lt_of_le hg HQ.out.kept.size) (by simp)).trans cx2)))
      clear hA0 hA1 hB0 hB1 hC0 hC1 hy0 hy1 hy2 wf0 wf1 wf2 hi40 hin hg hall cx0 cx1 cx2
      go_upto_region 8 with (first
        | (go_at_call 15; (refine (HQ.out.num (b := (k : Int)) rfl).mono ?_); rintro e w6 ⟨rfl, rfl⟩))
      have hwk1 : IntKind.i64.wrap ((k : Int) - 1) = (k : Int) - 1 := by rw [IntKind.wrap_i64]; have := HI.out; omega
      have hwk2 : IntKind.i64.wrap ((k : Int) - 1 + y1) = (k : Int) - 1 + y1 := by rw [IntKind.wrap_i64]; have := HI.out; have := HB.out; omega
      obtain ⟨M, hM⟩ : ∃ M, max 1 ((k : Int) - 1 + y1) = M := ⟨_, rfl⟩
      have HM := Lib.hid hM
      clear hM
      obtain ⟨N, hN⟩ : ∃ N, anL (anK y0 M y2 (i : Int)) nilV = N := ⟨_, rfl⟩
      have hbn := build_anK y0 M y2 (i : Int)
      have hNl : N.length = 38 := by rw [← hN]; exact anL_len (anK_name _ _ _ _)
      have hNo : ∀ u ∈ N, u.oneCell' = true := by rw [← hN]; exact anL_one _ rfl
      rw [hN] at hbn
      have HN := Lib.hid (And.intro hN (And.intro hNl (And.intro hNo hbn)))
      obtain ⟨Z, hZ⟩ : ∃ Z, anL anZero nilV = Z := ⟨_, rfl⟩
      have HZ := Lib.hid (show (Tryd.prog.info? 39).bind (·.zero) = some (.agg Z.toArray) ∧ Z.length = 38 by rw [← hZ]; exact ⟨zv_an, anZ_len⟩)
      clear hN hNl hNo hbn hZ
      have HSt := Lib.hid (storedP (w := wr.drew) (t := 39) (Z := Z) (X := N) (by rw [HN.out.2.1, HZ.out.2]))
      have HTh := Lib.hid (there_newP (w := wr.drew) (t := 39) (Z := Z) (X := N) (by rw [HN.out.2.1, HZ.out.2]))
      go_cut [7] (fun v7 wx => v7 = .pointer (some ⟨wr.heap.size, 0, none⟩) ∧ rowAt wx wr.heap.size 39 N.toArray ∧ keepBut [] wr wx)
      case first =>
        have s1 : keepBut [] wr wr.drew := (keepBut.refl [] wr).drew
        refine wp_region_held_drew (S := keepBut [] wr) (by kernel_rfl) s1 (fun _ => ?_)
        refine wpAnyH_take (i := 0) (oi := ⟨_, _, _, _, _, _⟩) (v := ?_) rfl (by kernel_rfl) (by kernel_rfl) (by kernel_rfl) (fun _ _ _ h => h) (Or.inl ⟨by rfl, ?_⟩) s1 ?_
        rotate_left
        · intro w' hSw; clear hSw; (go_simp; try with_reducible rfl)
        try simp only [Act.put, List.setIfInBounds_toArray, List.set_cons_zero, List.set_cons_succ]
        refine wpAnyH_take (i := 1) (oi := ⟨_, _, _, _, _, _⟩) (v := ?_) rfl (by kernel_rfl) (by kernel_rfl) (by kernel_rfl) (fun _ _ _ h => h) (Or.inl ⟨by rfl, ?_⟩) s1 ?_
        rotate_left
        · intro w' hSw; clear hSw; (go_simp; try with_reducible rfl)
        try simp only [Act.put, List.setIfInBounds_toArray, List.set_cons_zero, List.set_cons_succ]
        refine wpAnyH_take (i := 2) (oi := ⟨_, _, _, _, _, _⟩) (v := ?_) rfl (by kernel_rfl) (by kernel_rfl) (by kernel_rfl) (fun _ _ _ h => h) (Or.inl ⟨by rfl, ?_⟩) s1 ?_
        rotate_left
        · intro w' hSw; clear hSw; (go_simp; try with_reducible rfl)
        try simp only [Act.put, List.setIfInBounds_toArray, List.set_cons_zero, List.set_cons_succ]
        refine wpAnyH_take (i := 3) (oi := ⟨_, _, _, _, _, _⟩) (v := ?_) rfl (by kernel_rfl) (by kernel_rfl) (by kernel_rfl) (fun _ _ _ h => h) (Or.inl ⟨by rfl, ?_⟩) s1 ?_
        rotate_left
        · intro w' hSw; clear hSw; (go_simp; try with_reducible rfl)
        try simp only [Act.put, List.setIfInBounds_toArray, List.set_cons_zero, List.set_cons_succ]
        refine wpAnyH_take (i := 4) (oi := ⟨_, _, _, _, _, _⟩) (v := ?_) rfl (by kernel_rfl) (by kernel_rfl) (by kernel_rfl) (fun _ _ _ h => h) (Or.inl ⟨by rfl, ?_⟩) s1 ?_
        rotate_left
        · intro w' hSw; have xc := (HX.out w' hSw).1; clear hSw; (go_simp; try with_reducible rfl)
        try simp only [Act.put, List.setIfInBounds_toArray, List.set_cons_zero, List.set_cons_succ]
        refine wpAnyH_take (i := 6) (oi := ⟨_, _, _, _, _, _⟩) (v := ?_) rfl (by kernel_rfl) (by kernel_rfl) (by kernel_rfl) (fun _ _ _ h => h) (Or.inl ⟨by rfl, ?_⟩) s1 ?_
        rotate_left
        · intro w' hSw; clear hSw; (go_simp; try with_reducible rfl)
        try simp only [Act.put, List.setIfInBounds_toArray, List.set_cons_zero, List.set_cons_succ]
        refine wpAnyH_take (i := 7) (oi := ⟨_, _, _, _, _, _⟩) (v := ?_) rfl (by kernel_rfl) (by kernel_rfl) (by kernel_rfl) (fun _ _ _ h => h) (Or.inl ⟨by rfl, ?_⟩) s1 ?_
        rotate_left
        · intro w' hSw; clear hSw; (go_simp; try with_reducible rfl)
        try simp only [Act.put, List.setIfInBounds_toArray, List.set_cons_zero, List.set_cons_succ]
        refine wpAnyH_take (i := 8) (oi := ⟨_, _, _, _, _, _⟩) (v := ?_) rfl (by kernel_rfl) (by kernel_rfl) (by kernel_rfl) (fun _ _ _ h => h) (Or.inl ⟨by rfl, ?_⟩) s1 ?_
        rotate_left
        · intro w' hSw; clear hSw; (go_simp; try with_reducible rfl)
        try simp only [Act.put, List.setIfInBounds_toArray, List.set_cons_zero, List.set_cons_succ]
        refine wpAnyH_take (i := 9) (oi := ⟨_, _, _, _, _, _⟩) (v := ?_) rfl (by kernel_rfl) (by kernel_rfl) (by kernel_rfl) (fun _ _ _ h => h) (Or.inl ⟨by rfl, ?_⟩) s1 ?_
        rotate_left
        · intro w' hSw; clear hSw; (go_simp; try with_reducible rfl)
        try simp only [Act.put, List.setIfInBounds_toArray, List.set_cons_zero, List.set_cons_succ]
        refine wpAnyH_take (i := 10) (oi := ⟨_, _, _, _, _, _⟩) (v := ?_) rfl (by kernel_rfl) (by kernel_rfl) (by kernel_rfl) (fun _ _ _ h => h) (Or.inl ⟨by rfl, ?_⟩) s1 ?_
        rotate_left
        · intro w' hSw; clear hSw; (go_simp; try with_reducible rfl)
        try simp only [Act.put, List.setIfInBounds_toArray, List.set_cons_zero, List.set_cons_succ]
        refine wpAnyH_take (i := 11) (oi := ⟨_, _, _, _, _, _⟩) (v := ?_) rfl (by kernel_rfl) (by kernel_rfl) (by kernel_rfl) (fun _ _ _ h => h) (Or.inl ⟨by rfl, ?_⟩) s1 ?_
        rotate_left
        · intro w' hSw; clear hSw; (go_simp; try with_reducible rfl)
        try simp only [Act.put, List.setIfInBounds_toArray, List.set_cons_zero, List.set_cons_succ]
        refine wpAnyH_take (i := 12) (oi := ⟨_, _, _, _, _, _⟩) (v := ?_) rfl (by kernel_rfl) (by kernel_rfl) (by kernel_rfl) (fun _ _ _ h => h) (Or.inl ⟨by rfl, ?_⟩) s1 ?_
        rotate_left
        · intro w' hSw; have xc := (HX.out w' hSw).2.1; clear hSw; (go_simp; try with_reducible rfl)
        try simp only [Act.put, List.setIfInBounds_toArray, List.set_cons_zero, List.set_cons_succ]
        refine wpAnyH_take (i := 16) (oi := ⟨_, _, _, _, _, _⟩) (v := ?_) rfl (by kernel_rfl) (by kernel_rfl) (by kernel_rfl) (fun _ _ _ h => h) (Or.inl ⟨by rfl, ?_⟩) s1 ?_
        rotate_left
        · intro w' hSw; clear hSw; (go_simp; try with_reducible rfl)
        try simp only [Act.put, List.setIfInBounds_toArray, List.set_cons_zero, List.set_cons_succ]
        refine wpAnyH_take (i := 17) (oi := ⟨_, _, _, _, _, _⟩) (v := ?_) rfl (by kernel_rfl) (by kernel_rfl) (by kernel_rfl) (fun _ _ _ h => h) (Or.inl ⟨by rfl, ?_⟩) s1 ?_
        rotate_left
        · intro w' hSw; clear hSw; (go_simp; try with_reducible rfl)
        try simp only [Act.put, List.setIfInBounds_toArray, List.set_cons_zero, List.set_cons_succ]
        refine wpAnyH_take (i := 18) (oi := ⟨_, _, _, _, _, _⟩) (v := ?_) rfl (by kernel_rfl) (by kernel_rfl) (by kernel_rfl) (fun _ _ _ h => h) (Or.inl ⟨by rfl, ?_⟩) s1 ?_
        rotate_left
        · intro w' hSw; clear hSw; (go_simp; try with_reducible rfl)
        try simp only [Act.put, List.setIfInBounds_toArray, List.set_cons_zero, List.set_cons_succ]
        refine wpAnyH_take (i := 19) (oi := ⟨_, _, _, _, _, _⟩) (v := ?_) rfl (by kernel_rfl) (by kernel_rfl) (by kernel_rfl) (fun _ _ _ h => h) (Or.inl ⟨by rfl, ?_⟩) s1 ?_
        rotate_left
        · intro w' hSw; clear hSw; (go_simp; try with_reducible rfl)
        try simp only [Act.put, List.setIfInBounds_toArray, List.set_cons_zero, List.set_cons_succ]
        refine wpAnyH_take (i := 20) (oi := ⟨_, _, _, _, _, _⟩) (v := ?_) rfl (by kernel_rfl) (by kernel_rfl) (by kernel_rfl) (fun _ _ _ h => h) (Or.inl ⟨by rfl, ?_⟩) s1 ?_
        rotate_left
        · intro w' hSw; have xc := (HX.out w' hSw).2.2; clear hSw; (go_simp; try with_reducible rfl)
        try simp only [Act.put, List.setIfInBounds_toArray, List.set_cons_zero, List.set_cons_succ]
        refine wpAnyH_take (i := 22) (oi := ⟨_, _, _, _, _, _⟩) (v := ?_) rfl (by kernel_rfl) (by kernel_rfl) (by kernel_rfl) (fun _ _ _ h => h) (Or.inl ⟨by rfl, ?_⟩) s1 ?_
        rotate_left
        · intro w' hSw; clear hSw; (go_simp; try with_reducible rfl)
        try simp only [Act.put, List.setIfInBounds_toArray, List.set_cons_zero, List.set_cons_succ]
        refine wpAnyH_ready (rs := [5, 24]) (by kernel_rfl) (by simp) ?_
        refine AllReadyH.cons (o := ⟨_, _, _, _, _, _⟩) rfl (fun KK hKK => ?_) (AllReadyH.cons (o := ⟨_, _, _, _, _, _⟩) rfl (fun KK hKK => ?_) AllReadyH.nil)
        · skip
          go_simp
          (refine (B0.out _).mono ?_)
          rintro e w' ⟨rfl, rfl⟩
          go_wp2_with fail
          refine hKK.out _ _ s1 (fun _ => ?_)
          clear hKK KK
          try simp only [Act.put, List.setIfInBounds_toArray, List.set_cons_zero, List.set_cons_succ]
          refine wpAnyH_ready (rs := [13, 24]) (by kernel_rfl) (by simp) ?_
          refine AllReadyH.cons (o := ⟨_, _, _, _, _, _⟩) rfl (fun KK hKK => ?_) (AllReadyH.cons (o := ⟨_, _, _, _, _, _⟩) rfl (fun KK hKK => ?_) AllReadyH.nil)
          · skip
            go_simp
            (refine (B1.out _).mono ?_)
            rintro e w' ⟨rfl, rfl⟩
            go_wp2_with fail
            refine hKK.out _ _ s1 (fun _ => ?_)
            clear hKK KK
            try simp only [Act.put, List.setIfInBounds_toArray, List.set_cons_zero, List.set_cons_succ]
            refine wpAnyH_take (i := 14) (oi := ⟨_, _, _, _, _, _⟩) (v := ?_) rfl (by kernel_rfl) (by kernel_rfl) (by kernel_rfl) (fun _ _ _ h => h) (Or.inl ⟨by rfl, ?_⟩) s1 ?_
            rotate_left
            · intro w' hSw; clear hSw; (go_simp; try with_reducible rfl)
            try simp only [Act.put, List.setIfInBounds_toArray, List.set_cons_zero, List.set_cons_succ]
            refine wpAnyH_take (i := 15) (oi := ⟨_, _, _, _, _, _⟩) (v := .int .i64 M) rfl (by kernel_rfl) (by kernel_rfl) (by kernel_rfl) (fun _ _ _ h => h) (Or.inl ⟨by rfl, ?_⟩) s1 ?_
            · intro w' hSw; clear hSw; have hmm := HM.out; by_cases hge : (1 : Int) ≤ (k : Int) - 1 + y1
              · have e : M = (k : Int) - 1 + y1 := by omega
                rw [e]; clear e hmm; (go_simp; first | done | with_reducible rfl | (intro _; omega) | omega)
              · have e : M = 1 := by omega
                rw [e]; clear e hmm; (go_simp; first | done | with_reducible rfl | (intro _; omega) | omega)
            try simp only [Act.put, List.setIfInBounds_toArray, List.set_cons_zero, List.set_cons_succ]
            refine wpAnyH_ready (rs := [21, 24]) (by kernel_rfl) (by simp) ?_
            refine AllReadyH.cons (o := ⟨_, _, _, _, _, _⟩) rfl (fun KK hKK => ?_) (AllReadyH.cons (o := ⟨_, _, _, _, _, _⟩) rfl (fun KK hKK => ?_) AllReadyH.nil)
            · skip
              go_simp
              (refine (B2.out _).mono ?_)
              rintro e w' ⟨rfl, rfl⟩
              go_wp2_with fail
              refine hKK.out _ _ s1 (fun _ => ?_)
              clear hKK KK
              try simp only [Act.put, List.setIfInBounds_toArray, List.set_cons_zero, List.set_cons_succ]
              refine wpAnyH_take (i := 23) (oi := ⟨_, _, _, _, _, _⟩) (v := .agg N.toArray) rfl (by kernel_rfl) (by kernel_rfl) (by kernel_rfl) (fun _ _ _ h => h) (yieldsIf_build 39 _ rfl ?_ _ ?_) s1 ?_
              · rfl
              · simp only [List.map_toArray, List.map_cons, List.map_nil]
                exact HN.out.2.2.2
              try simp only [Act.put, List.setIfInBounds_toArray, List.set_cons_zero, List.set_cons_succ]
              refine wpAnyH_ready (rs := [24]) (by kernel_rfl) (by simp) ?_
              refine AllReadyH.cons (o := ⟨_, _, _, _, _, _⟩) rfl (fun KK hKK => ?_) AllReadyH.nil
              refine step_alloc_to _ _ rfl 39 rfl _ HZ.out.1 rfl ?_
              have s3 : keepBut [] wr (wr.drew.alloc (.cells Z.toArray 39)) := s1.alloc _
              refine hKK.out _ _ s3 (fun _ => ?_)
              clear hKK KK
              try simp only [Act.put, List.setIfInBounds_toArray, List.set_cons_zero, List.set_cons_succ]
              refine wpAnyH_ready (rs := [25]) (by kernel_rfl) (by simp) ?_
              refine AllReadyH.cons (o := ⟨_, _, _, _, _, _⟩) rfl (fun KK hKK => ?_) AllReadyH.nil
              refine step_store_mid rfl 39 (.tmp 7) (.tmp 54) rfl wr.heap.size 0 N.toArray rfl (by rfl) HTh.out (by rw [List.size_toArray, HN.out.2.1]; exact info_anS) (by simpa using HN.out.2.2.1) ?_
              refine hKK.out _ _ (s1.then HSt.out.2 (by simp)) (fun _ => ?_)
              clear hKK KK
              try simp only [Act.put, List.setIfInBounds_toArray, List.set_cons_zero, List.set_cons_succ]
              refine wpAnyH_done (by kernel_rfl) ?_ _
              go_wp2_with fail
              go_meet
              exact ⟨rfl, HSt.out.1, s1.then HSt.out.2 (by simp)⟩
            · skip
              refine step_alloc_to _ _ rfl 39 rfl _ HZ.out.1 rfl ?_
              have s3 : keepBut [] wr (wr.drew.alloc (.cells Z.toArray 39)) := s1.alloc _
              refine hKK.out _ _ s3 (fun _ => ?_)
              clear hKK KK
              try simp only [Act.put, List.setIfInBounds_toArray, List.set_cons_zero, List.set_cons_succ]
              refine wpAnyH_ready (rs := [21]) (by kernel_rfl) (by simp) ?_
              refine AllReadyH.cons (o := ⟨_, _, _, _, _, _⟩) rfl (fun KK hKK => ?_) AllReadyH.nil
              go_simp
              (refine (B2.out _).mono ?_)
              rintro e w' ⟨rfl, rfl⟩
              go_wp2_with fail
              refine hKK.out _ _ s3 (fun _ => ?_)
              clear hKK KK
              try simp only [Act.put, List.setIfInBounds_toArray, List.set_cons_zero, List.set_cons_succ]
              refine wpAnyH_take (i := 23) (oi := ⟨_, _, _, _, _, _⟩) (v := .agg N.toArray) rfl (by kernel_rfl) (by kernel_rfl) (by kernel_rfl) (fun _ _ _ h => h) (yieldsIf_build 39 _ rfl ?_ _ ?_) s3 ?_
              · rfl
              · simp only [List.map_toArray, List.map_cons, List.map_nil]
                exact HN.out.2.2.2
              try simp only [Act.put, List.setIfInBounds_toArray, List.set_cons_zero, List.set_cons_succ]
              refine wpAnyH_ready (rs := [25]) (by kernel_rfl) (by simp) ?_
              refine AllReadyH.cons (o := ⟨_, _, _, _, _, _⟩) rfl (fun KK hKK => ?_) AllReadyH.nil
              refine step_store_mid rfl 39 (.tmp 7) (.tmp 54) rfl wr.heap.size 0 N.toArray rfl (by rfl) HTh.out (by rw [List.size_toArray, HN.out.2.1]; exact info_anS) (by simpa using HN.out.2.2.1) ?_
              refine hKK.out _ _ (s1.then HSt.out.2 (by simp)) (fun _ => ?_)
              clear hKK KK
              try simp only [Act.put, List.setIfInBounds_toArray, List.set_cons_zero, List.set_cons_succ]
              refine wpAnyH_done (by kernel_rfl) ?_ _
              go_wp2_with fail
              go_meet
              exact ⟨rfl, HSt.out.1, s1.then HSt.out.2 (by simp)⟩
          · skip
            refine step_alloc_to _ _ rfl 39 rfl _ HZ.out.1 rfl ?_
            have s3 : keepBut [] wr (wr.drew.alloc (.cells Z.toArray 39)) := s1.alloc _
            refine hKK.out _ _ s3 (fun _ => ?_)
            clear hKK KK
            try simp only [Act.put, List.setIfInBounds_toArray, List.set_cons_zero, List.set_cons_succ]
            refine wpAnyH_ready (rs := [13]) (by kernel_rfl) (by simp) ?_
            refine AllReadyH.cons (o := ⟨_, _, _, _, _, _⟩) rfl (fun KK hKK => ?_) AllReadyH.nil
            go_simp
            (refine (B1.out _).mono ?_)
            rintro e w' ⟨rfl, rfl⟩
            go_wp2_with fail
            refine hKK.out _ _ s3 (fun _ => ?_)
            clear hKK KK
            try simp only [Act.put, List.setIfInBounds_toArray, List.set_cons_zero, List.set_cons_succ]
            refine wpAnyH_take (i := 14) (oi := ⟨_, _, _, _, _, _⟩) (v := ?_) rfl (by kernel_rfl) (by kernel_rfl) (by kernel_rfl) (fun _ _ _ h => h) (Or.inl ⟨by rfl, ?_⟩) s3 ?_
            rotate_left
            · intro w' hSw; clear hSw; (go_simp; try with_reducible rfl)
            try simp only [Act.put, List.setIfInBounds_toArray, List.set_cons_zero, List.set_cons_succ]
            refine wpAnyH_take (i := 15) (oi := ⟨_, _, _, _, _, _⟩) (v := .int .i64 M) rfl (by kernel_rfl) (by kernel_rfl) (by kernel_rfl) (fun _ _ _ h => h) (Or.inl ⟨by rfl, ?_⟩) s3 ?_
            · intro w' hSw; clear hSw; have hmm := HM.out; by_cases hge : (1 : Int) ≤ (k : Int) - 1 + y1
              · have e : M = (k : Int) - 1 + y1 := by omega
                rw [e]; clear e hmm; (go_simp; first | done | with_reducible rfl | (intro _; omega) | omega)
              · have e : M = 1 := by omega
                rw [e]; clear e hmm; (go_simp; first | done | with_reducible rfl | (intro _; omega) | omega)
            try simp only [Act.put, List.setIfInBounds_toArray, List.set_cons_zero, List.set_cons_succ]
            refine wpAnyH_ready (rs := [21]) (by kernel_rfl) (by simp) ?_
            refine AllReadyH.cons (o := ⟨_, _, _, _, _, _⟩) rfl (fun KK hKK => ?_) AllReadyH.nil
            go_simp
            (refine (B2.out _).mono ?_)
            rintro e w' ⟨rfl, rfl⟩
            go_wp2_with fail
            refine hKK.out _ _ s3 (fun _ => ?_)
            clear hKK KK
            try simp only [Act.put, List.setIfInBounds_toArray, List.set_cons_zero, List.set_cons_succ]
            refine wpAnyH_take (i := 23) (oi := ⟨_, _, _, _, _, _⟩) (v := .agg N.toArray) rfl (by kernel_rfl) (by kernel_rfl) (by kernel_rfl) (fun _ _ _ h => h) (yieldsIf_build 39 _ rfl ?_ _ ?_) s3 ?_
            · rfl
            · simp only [List.map_toArray, List.map_cons, List.map_nil]
              exact HN.out.2.2.2
            try simp only [Act.put, List.setIfInBounds_toArray, List.set_cons_zero, List.set_cons_succ]
            refine wpAnyH_ready (rs := [25]) (by kernel_rfl) (by simp) ?_
            refine AllReadyH.cons (o := ⟨_, _, _, _, _, _⟩) rfl (fun KK hKK => ?_) AllReadyH.nil
            refine step_store_mid rfl 39 (.tmp 7) (.tmp 54) rfl wr.heap.size 0 N.toArray rfl (by rfl) HTh.out (by rw [List.size_toArray, HN.out.2.1]; exact info_anS) (by simpa using HN.out.2.2.1) ?_
            refine hKK.out _ _ (s1.then HSt.out.2 (by simp)) (fun _ => ?_)
            clear hKK KK
            try simp only [Act.put, List.setIfInBounds_toArray, List.set_cons_zero, List.set_cons_succ]
            refine wpAnyH_done (by kernel_rfl) ?_ _
            go_wp2_with fail
            go_meet
            exact ⟨rfl, HSt.out.1, s1.then HSt.out.2 (by simp)⟩
        · skip
          refine step_alloc_to _ _ rfl 39 rfl _ HZ.out.1 rfl ?_
          have s3 : keepBut [] wr (wr.drew.alloc (.cells Z.toArray 39)) := s1.alloc _
          refine hKK.out _ _ s3 (fun _ => ?_)
          clear hKK KK
          try simp only [Act.put, List.setIfInBounds_toArray, List.set_cons_zero, List.set_cons_succ]
          refine wpAnyH_ready (rs := [5]) (by kernel_rfl) (by simp) ?_
          refine AllReadyH.cons (o := ⟨_, _, _, _, _, _⟩) rfl (fun KK hKK => ?_) AllReadyH.nil
          go_simp
          (refine (B0.out _).mono ?_)
          rintro e w' ⟨rfl, rfl⟩
          go_wp2_with fail
          refine hKK.out _ _ s3 (fun _ => ?_)
          clear hKK KK
          try simp only [Act.put, List.setIfInBounds_toArray, List.set_cons_zero, List.set_cons_succ]
          refine wpAnyH_ready (rs := [13]) (by kernel_rfl) (by simp) ?_
          refine AllReadyH.cons (o := ⟨_, _, _, _, _, _⟩) rfl (fun KK hKK => ?_) AllReadyH.nil
          go_simp
          (refine (B1.out _).mono ?_)
          rintro e w' ⟨rfl, rfl⟩
          go_wp2_with fail
          refine hKK.out _ _ s3 (fun _ => ?_)
          clear hKK KK
          try simp only [Act.put, List.setIfInBounds_toArray, List.set_cons_zero, List.set_cons_succ]
          refine wpAnyH_take (i := 14) (oi := ⟨_, _, _, _, _, _⟩) (v := ?_) rfl (by kernel_rfl) (by kernel_rfl) (by kernel_rfl) (fun _ _ _ h => h) (Or.inl ⟨by rfl, ?_⟩) s3 ?_
          rotate_left
          · intro w' hSw; clear hSw; (go_simp; try with_reducible rfl)
          try simp only [Act.put, List.setIfInBounds_toArray, List.set_cons_zero, List.set_cons_succ]
          refine wpAnyH_take (i := 15) (oi := ⟨_, _, _, _, _, _⟩) (v := .int .i64 M) rfl (by kernel_rfl) (by kernel_rfl) (by kernel_rfl) (fun _ _ _ h => h) (Or.inl ⟨by rfl, ?_⟩) s3 ?_
          · intro w' hSw; clear hSw; have hmm := HM.out; by_cases hge : (1 : Int) ≤ (k : Int) - 1 + y1
            · have e : M = (k : Int) - 1 + y1 := by omega
              rw [e]; clear e hmm; (go_simp; first | done | with_reducible rfl | (intro _; omega) | omega)
            · have e : M = 1 := by omega
              rw [e]; clear e hmm; (go_simp; first | done | with_reducible rfl | (intro _; omega) | omega)
          try simp only [Act.put, List.setIfInBounds_toArray, List.set_cons_zero, List.set_cons_succ]
          refine wpAnyH_ready (rs := [21]) (by kernel_rfl) (by simp) ?_
          refine AllReadyH.cons (o := ⟨_, _, _, _, _, _⟩) rfl (fun KK hKK => ?_) AllReadyH.nil
          go_simp
          (refine (B2.out _).mono ?_)
          rintro e w' ⟨rfl, rfl⟩
          go_wp2_with fail
          refine hKK.out _ _ s3 (fun _ => ?_)
          clear hKK KK
          try simp only [Act.put, List.setIfInBounds_toArray, List.set_cons_zero, List.set_cons_succ]
          refine wpAnyH_take (i := 23) (oi := ⟨_, _, _, _, _, _⟩) (v := .agg N.toArray) rfl (by kernel_rfl) (by kernel_rfl) (by kernel_rfl) (fun _ _ _ h => h) (yieldsIf_build 39 _ rfl ?_ _ ?_) s3 ?_
          · rfl
          · simp only [List.map_toArray, List.map_cons, List.map_nil]
            exact HN.out.2.2.2
          try simp only [Act.put, List.setIfInBounds_toArray, List.set_cons_zero, List.set_cons_succ]
          refine wpAnyH_ready (rs := [25]) (by kernel_rfl) (by simp) ?_
          refine AllReadyH.cons (o := ⟨_, _, _, _, _, _⟩) rfl (fun KK hKK => ?_) AllReadyH.nil
          refine step_store_mid rfl 39 (.tmp 7) (.tmp 54) rfl wr.heap.size 0 N.toArray rfl (by rfl) HTh.out (by rw [List.size_toArray, HN.out.2.1]; exact info_anS) (by simpa using HN.out.2.2.1) ?_
          refine hKK.out _ _ (s1.then HSt.out.2 (by simp)) (fun _ => ?_)
          clear hKK KK
          try simp only [Act.put, List.setIfInBounds_toArray, List.set_cons_zero, List.set_cons_succ]
          refine wpAnyH_done (by kernel_rfl) ?_ _
          go_wp2_with fail
          go_meet
          exact ⟨rfl, HSt.out.1, s1.then HSt.out.2 (by simp)⟩
      case rest =>
        obtain ⟨rfl, hrN, hkN⟩ := hcut
        have HQ1 := Lib.hid (HQ.out.over hkN)
        obtain ⟨d, hd⟩ : ∃ d, wr.heap.size = d := ⟨_, rfl⟩
        rw [hd] at hrN ⊢
        have HRN := Lib.hid hrN
        have hbY := anPCells 10 y0 M y2 (i : Int) N HN.out.1
        have hbV := anPCells 11 y0 M y2 (i : Int) N HN.out.1
        have HY := Lib.hid hbY
        have HV := Lib.hid hbV
        have HCN := Lib.hid (fun (W : World) (hh : rowAt W d 39 N.toArray) => (show W.cell? ⟨d, 0, none⟩ = some (.int .i64 y0) ∧ W.cell? ⟨d, 1, none⟩ = some (.int .i64 M) ∧ W.cell? ⟨d, 2, none⟩ = some (.int .i64 y2) from ⟨by rw [hh.cell, ← HN.out.1]; rfl, by rw [hh.cell, ← HN.out.1]; rfl, by rw [hh.cell, ← HN.out.1]; rfl⟩))
        have hNl := HN.out.2.1
        clear hd hbY hbV hrN hkN HQ HX B0 B1 B2 HSt HTh HM
        by_cases hfit : y0 = 2 ∧ M = (k : Int)
        · have HDP := Lib.hid (fun (_ : Unit) => (show d ≠ p from fun e => by have h1 := HRN.out; have h2 := HQ1.out.on.is; obtain ⟨cv, ev, F, h3, _⟩ := h2; exact h1.apart h3.row (by decide) e))
          obtain ⟨rfl, rfl⟩ := hfit
          have hwk3 : IntKind.i64.wrap ((k : Int) + 1) = (k : Int) + 1 := by rw [IntKind.wrap_i64]; have := HI.out; omega
          go_upto_region 10 with (first
            | (refine wpList_load_mid rfl 39 (.tmp 7) rfl d 0 rfl N _ HRN.out.rangeAll Tryd.underlying39 rfl (by rw [HN.out.2.1]; exact info_anS) ?_)
            | (go_at_call 17; rw [HY.out]; (refine (HQ1.out.take (anP_val 10 2 (k : Int) y2 (i : Int) _) (by simp) (by show (0 : Nat) ≤ 1000000; omega) (by show (0 : Nat) ≤ 1000000; omega) (on_take k r 10 2 (k : Int) y2 (i : Int) ⟨rfl, rfl⟩)).mono ?_); rintro e w4 ⟨av, G', rfl, h9, _, h8, k8⟩; have HQ2 := Lib.hid h8; obtain ⟨N8, hN8⟩ : ∃ X, anL (anK 2 (k : Int) y2 (i : Int)) av = X := ⟨_, rfl⟩; have HN8 := Lib.hid (And.intro hN8 (And.intro (show N8.length = 38 by rw [← hN8]; exact anL_len h9.1) (show ∀ u ∈ N8, u.oneCell' = true by rw [← hN8]; exact anL_one _ h9.2.one))); have hdp : d ≠ p := HDP.out (); have HRB := Lib.hid (k8.row HRN.out (by simpa using hdp)); rw [hN8]; clear h8 h9 k8 hN8 hdp HQ1)
            | (with_reducible refine wpList_alloc_to _ _ rfl 39 rfl _ HZ.out.1 rfl ?_)
            | (refine wpList_store_mid rfl 39 (.tmp 8) (.tmp 60) rfl w4.heap.size 0 N8.toArray rfl rfl (there_newP (by rw [HN8.out.2.1, HZ.out.2])) (by rw [List.size_toArray, HN8.out.2.1]; exact info_anS) (by simpa using HN8.out.2.2) ?_))
          have hs := storedP (w := w4) (t := 39) (Z := Z) (X := N8) (by rw [HN8.out.2.1, HZ.out.2])
          generalize (w4.alloc (.cells Z.toArray 39)).setCells w4.heap.size 0 N8 = w5 at hs ⊢
          generalize w4.heap.size = b8 at hs ⊢
          have HQ3 := Lib.hid (HQ2.out.over hs.2)
          have HRC := Lib.hid (hs.2.row HRB.out (by simp))
          have HS8 := Lib.hid hs.1
          clear hs HQ2 HRB
          obtain ⟨c0, c1, c2⟩ := HCN.out _ HRC.out
          have e2 : w5.cell? ⟨b8, 2, none⟩ = some (.int .i64 y2) := by rw [HS8.out.cell, ← HN8.out.1]; rfl
          have e3 : w5.cell? ⟨b8, 3, none⟩ = some (.int .i64 (i : Int)) := by rw [HS8.out.cell, ← HN8.out.1]; rfl
          go_upto_region 14 with (first
            | (go_at_call 18; (refine (HQ3.out.waits (b := false) rfl).mono ?_); rintro e w6 ⟨rfl, rfl⟩))
          clear c0 c1 c2 e2 e3
          go_upto_region 15 with (first
            | (refine wpList_load_mid rfl 39 (.tmp 7) rfl d 0 rfl N _ HRC.out.rangeAll Tryd.underlying39 rfl (by rw [HN.out.2.1]; exact info_anS) ?_)
            | (go_at_call 17; rw [HV.out]; (refine (HQ3.out.take (anP_val 11 2 (k : Int) y2 (i : Int) _) (by simp) (by show (0 : Nat) ≤ 1000000; omega) (by show (0 : Nat) ≤ 1000000; omega) (on_again k r 11 2 (k : Int) y2 (i : Int))).mono ?_); rintro e w7 ⟨av, G', rfl, h9, _, h8, k8⟩; have HQ4 := Lib.hid h8; obtain ⟨N9, hN9⟩ : ∃ X, anL anZero av = X := ⟨_, rfl⟩; have HN9 := Lib.hid (And.intro hN9 (And.intro (show N9.length = 38 by rw [← hN9]; exact anL_len h9.1) (show ∀ u ∈ N9, u.oneCell' = true by rw [← hN9]; exact anL_one _ h9.2.one))); have hdp : d ≠ p := HDP.out (); have HRD := Lib.hid (k8.row HRC.out (by simpa using hdp)); rw [hN9]; clear h8 h9 k8 hN9 hdp HQ3)
            | (with_reducible refine wpList_alloc_to _ _ rfl 39 rfl _ HZ.out.1 rfl ?_)
            | (refine wpList_store_mid rfl 39 (.tmp 11) (.tmp 110) rfl w7.heap.size 0 N9.toArray rfl rfl (there_newP (by rw [HN9.out.2.1, HZ.out.2])) (by rw [List.size_toArray, HN9.out.2.1]; exact info_anS) (by simpa using HN9.out.2.2) ?_))
          have hs := storedP (w := w7) (t := 39) (Z := Z) (X := N9) (by rw [HN9.out.2.1, HZ.out.2])
          generalize (w7.alloc (.cells Z.toArray 39)).setCells w7.heap.size 0 N9 = w8 at hs ⊢
          generalize w7.heap.size = b9 at hs ⊢
          have HQ5 := Lib.hid (HQ4.out.over hs.2)
          have HRE := Lib.hid (hs.2.row HRD.out (by simp))
          have HS9 := Lib.hid hs.1
          clear hs HQ4 HRD
          go_wp2_with (first
            | (go_at_call 20; (refine (get_any 9 _).mono ?_); rintro e w9 ⟨rfl, k9⟩; have HQ6 := Lib.hid (HQ5.out.over k9); clear k9)
            | (go_at_call 19; (refine (HQ6.out.asks (getR_val _ [] 9) (b := true) (on_ask k r (by have := HI.out; omega)) (by simp)).mono ?_); rintro e w10 ⟨rfl, h10, _⟩; have HQ7 := Lib.hid h10; clear h10))
          go_roundw
          case rel => exact ⟨i + 1, k + 1, _, by go_num, Lib.hid (by have := HI.out; have := HB.out; omega), HQ7⟩
          case measure => simp only [intOf]; have := HB.out; omega
        · have HDP := Lib.hid (fun (_ : Unit) => (show d ≠ p from fun e => by have h1 := HRN.out; have h2 := HQ1.out.on.is; obtain ⟨cv, ev, F, h3, _⟩ := h2; exact h1.apart h3.row (by decide) e))
          have HF := Lib.hid hfit
          have hq : (y0 == 2) = false ∨ ((y0 == 2) = true ∧ (M == (k : Int)) = false) := by
            by_cases h : y0 = 2
            · right; exact ⟨by simp [h], by simp; exact fun e => hfit ⟨h, e⟩⟩
            · left; simp [h]
          clear hfit
          rcases hq with q1 | ⟨q1, q2⟩
          all_goals
            go_upto_region 10 with (first
              | (refine wpList_load_mid rfl 39 (.tmp 7) rfl d 0 rfl N _ HRN.out.rangeAll Tryd.underlying39 rfl (by rw [HN.out.2.1]; exact info_anS) ?_)
              | (go_at_call 17; rw [HY.out]; (refine (HQ1.out.take (anP_val 10 y0 M y2 (i : Int) _) (by simp) (by show (0 : Nat) ≤ 1000000; omega) (by show (0 : Nat) ≤ 1000000; omega) (on_pass k r 10 y0 M y2 (i : Int) HF.out)).mono ?_); rintro e w4 ⟨av, G', rfl, h9, _, h8, k8⟩; have HQ2 := Lib.hid h8; obtain ⟨N8, hN8⟩ : ∃ X, anL anZero av = X := ⟨_, rfl⟩; have HN8 := Lib.hid (And.intro hN8 (And.intro (show N8.length = 38 by rw [← hN8]; exact anL_len h9.1) (show ∀ u ∈ N8, u.oneCell' = true by rw [← hN8]; exact anL_one _ h9.2.one))); have hdp : d ≠ p := HDP.out (); have HRB := Lib.hid (k8.row HRN.out (by simpa using hdp)); rw [hN8]; clear h8 h9 k8 hN8 hdp HQ1)
              | (with_reducible refine wpList_alloc_to _ _ rfl 39 rfl _ HZ.out.1 rfl ?_)
              | (refine wpList_store_mid rfl 39 (.tmp 8) (.tmp 60) rfl w4.heap.size 0 N8.toArray rfl rfl (there_newP (by rw [HN8.out.2.1, HZ.out.2])) (by rw [List.size_toArray, HN8.out.2.1]; exact info_anS) (by simpa using HN8.out.2.2) ?_))
            have hs := storedP (w := w4) (t := 39) (Z := Z) (X := N8) (by rw [HN8.out.2.1, HZ.out.2])
            generalize (w4.alloc (.cells Z.toArray 39)).setCells w4.heap.size 0 N8 = w5 at hs ⊢
            generalize w4.heap.size = b8 at hs ⊢
            have HQ3 := Lib.hid (HQ2.out.over hs.2)
            have HRC := Lib.hid (hs.2.row HRB.out (by simp))
            have HS8 := Lib.hid hs.1
            clear hs HQ2 HRB
            obtain ⟨c0, c1, c2⟩ := HCN.out _ HRC.out
            go_wp2_with (first
              | (go_at_call 18; (refine (HQ3.out.waits (b := true) rfl).mono ?_); rintro e w6 ⟨rfl, rfl⟩))
            go_roundw
            case rel => exact ⟨i + 1, k, r, by go_num, Lib.hid (by have := HI.out; have := HB.out; omega), HQ3⟩
            case measure => simp only [intOf]; have := HB.out; omega
    · have hor : ¬ (i : Int) < (n : Int) ∨ ((i : Int) < (n : Int) ∧ ¬ (i : Int) < 60) := by omega
      have HW := Lib.hid (worksQ_any wr HQ.out.sizes)
      have HK := Lib.hid HQ.out.kept
      clear hi HQ
      rcases hor with hor | ⟨hor, hor2⟩
      · go_wp2_with (first
          | (go_at_call 13; (with_reducible refine HW.out.mono ?_); rintro e w4 ⟨rfl, k4⟩))
        go_ret
        exact ⟨rfl, HK.out.then k4 (by simp)⟩
      · have d2 : decide ((i : Int) < 60) = false := by simpa using hor2
        go_wp2_with (first
          | (go_at_call 13; (with_reducible refine HW.out.mono ?_); rintro e w4 ⟨rfl, k4⟩))
        go_ret
        exact ⟨rfl, HK.out.then k4 (by simp)⟩
end Go.Proofs.YtkpmlcgbffdloaaDoor
