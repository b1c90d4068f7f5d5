/-
  RC, 4: the document's CheckReq.
-/
import Derived.Test.YthfdkonhjpdflaaGreatDoorRC3
import Derived.Test.YthfdkonhjpdflaaGreatDoorPk10
namespace Go.Proofs.YthfdkonhjpdflaaGreatDoor
open Go.RowKit
set_option linter.unusedVariables false
set_option maxRecDepth 100000
set_option linter.unusedSimpArgs false

set_option maxHeartbeats 16000000 in
theorem checkReqD (F : List Nat) (r : RQ) (ev : Value) (w : World) (h : rqV w F r ev) :
    Calls Tryz.prog 80 #[.agg (rqL r ev).toArray] w fun e w' => e = .returned (.int .i64 (toldP r.ok)) ∧ keepBut [] w w' := by
  obtain ⟨hn, A, c, g, rfl, _, hcm, _, _⟩ := h
  have hlm : r.env.length ≤ 9223372036854775807 := by unfold maxLen at hcm; omega
  have k1 := (keepBut.refl [] w).alloc (.cells (rqL r (.slice A r.env.length c)).toArray 26)
  have r1 := rowAt.new w 26 (rqL r (.slice A r.env.length c)).toArray
  obtain ⟨w1, hw1⟩ : ∃ w1, w.alloc (.cells (rqL r (.slice A r.env.length c)).toArray 26) = w1 := ⟨_, rfl⟩
  rw [hw1] at k1 r1
  have HW := Lib.hid (And.intro hw1 k1)
  have x0 : w1.cell? ⟨w.heap.size, 0, none⟩ = some (.int .i64 r.client) := r1.cell 0
  have x1 : w1.cell? ⟨w.heap.size, 1, none⟩ = some (.int .i64 r.num) := r1.cell 1
  have x2 : w1.cell? ⟨w.heap.size, 2, none⟩ = some (.int .i64 r.kind) := r1.cell 2
  have x3 : w1.cell? ⟨w.heap.size, 3, none⟩ = some (.int .i64 r.version) := r1.cell 3
  have x5 := (r1.cell 36).trans (rqL_env hn)
  have HX := Lib.hid (r1.range (rqL_name r (.slice A r.env.length c)))
  have HQ := Lib.hid (name_eql r.name nameZ hn nameZ_len w1)
  have HI := Lib.hid (show (Tryz.prog.info? 23).map (·.size) = some (nameL r.name).length by rw [nameL_len, hn]; exact infoName)
  have HS0 := Lib.hid (show r.ok = (inP r.client 0 2 && (inP r.num 1 9007199254740991 && (if r.kind = 1 ∨ r.kind = 3 then (r.version == 0) && (r.env.length == 0) else if r.kind = 2 then inP r.version 1 9007199254740991 && inP (r.env.length : Int) 1 1024 else if r.kind = 4 then inP r.version 1 255 && (decide (r.name = nameZ) && (r.env.length == 0)) else false))) from rfl)
  generalize r.ok = ok at *
  obtain ⟨a0, a1, a2, a3, nr, er⟩ := r
  dsimp only at hlm x0 x1 x2 x3 x5 HX HQ HI HS0 HW hn ⊢
  obtain ⟨L, hL⟩ : ∃ L, er.length = L := ⟨_, rfl⟩
  rw [hL] at hlm x5 HS0 HW ⊢
  clear k1 r1 hw1 hn hL
  rcases Bool.eq_false_or_eq_true (inP a0 0 2) with c0 | c0
  · rcases Bool.eq_false_or_eq_true (inP a1 1 9007199254740991) with c1 | c1
    · by_cases k1 : a2 = 1
      · subst k1
        by_cases v0 : a3 = 0
        · subst v0
          by_cases e0 : L = 0
          · subst e0
            have HS := Lib.hid (show ok = true by rw [HS0.out]; simp [c0, c1])
            clear HS0
            go_enter Tryz.func80, Tryz.ntmps80
            go_wp2_with (first
              | (with_reducible refine wpList_box_to _ _ rfl 26 (.tmp 0) rfl _ rfl HW.out.1 ?_)
              | (go_at_call 67; refine (withinR _ _ _ _).mono ?_; rintro e w' ⟨rfl, rfl⟩)
              | (go_at_call 71; refine (argR _ _).mono ?_; rintro e w' ⟨rfl, rfl⟩))
            go_ret
            exact ⟨by rw [HS.out]; first | rfl | simp_all, HW.out.2⟩
          · have e0b : (L == 0) = false := by simp [e0]
            have e1 : ((L : Int) == 0) = false := by simp [e0]
            have HS := Lib.hid (show ok = false by rw [HS0.out]; simp [c0, c1, e0])
            clear HS0
            go_enter Tryz.func80, Tryz.ntmps80
            go_wp2_with (first
              | (with_reducible refine wpList_box_to _ _ rfl 26 (.tmp 0) rfl _ rfl HW.out.1 ?_)
              | (go_at_call 67; refine (withinR _ _ _ _).mono ?_; rintro e w' ⟨rfl, rfl⟩)
              | (go_at_call 71; refine (argR _ _).mono ?_; rintro e w' ⟨rfl, rfl⟩))
            go_ret
            exact ⟨by rw [HS.out]; first | rfl | simp_all, HW.out.2⟩
        · have v0b : (a3 == 0) = false := by simp [v0]
          have HS := Lib.hid (show ok = false by rw [HS0.out]; simp [c0, c1, v0])
          clear HS0
          go_enter Tryz.func80, Tryz.ntmps80
          go_wp2_with (first
            | (with_reducible refine wpList_box_to _ _ rfl 26 (.tmp 0) rfl _ rfl HW.out.1 ?_)
            | (go_at_call 67; refine (withinR _ _ _ _).mono ?_; rintro e w' ⟨rfl, rfl⟩)
            | (go_at_call 71; refine (argR _ _).mono ?_; rintro e w' ⟨rfl, rfl⟩))
          go_ret
          exact ⟨by rw [HS.out]; first | rfl | simp_all, HW.out.2⟩
      · have k1b : (a2 == 1) = false := by simp [k1]
        by_cases k3 : a2 = 3
        · subst k3
          by_cases v0 : a3 = 0
          · subst v0
            by_cases e0 : L = 0
            · subst e0
              have HS := Lib.hid (show ok = true by rw [HS0.out]; simp [c0, c1])
              clear HS0
              go_enter Tryz.func80, Tryz.ntmps80
              go_wp2_with (first
                | (with_reducible refine wpList_box_to _ _ rfl 26 (.tmp 0) rfl _ rfl HW.out.1 ?_)
                | (go_at_call 67; refine (withinR _ _ _ _).mono ?_; rintro e w' ⟨rfl, rfl⟩)
                | (go_at_call 71; refine (argR _ _).mono ?_; rintro e w' ⟨rfl, rfl⟩))
              go_ret
              exact ⟨by rw [HS.out]; first | rfl | simp_all, HW.out.2⟩
            · have e0b : (L == 0) = false := by simp [e0]
              have e1 : ((L : Int) == 0) = false := by simp [e0]
              have HS := Lib.hid (show ok = false by rw [HS0.out]; simp [c0, c1, e0])
              clear HS0
              go_enter Tryz.func80, Tryz.ntmps80
              go_wp2_with (first
                | (with_reducible refine wpList_box_to _ _ rfl 26 (.tmp 0) rfl _ rfl HW.out.1 ?_)
                | (go_at_call 67; refine (withinR _ _ _ _).mono ?_; rintro e w' ⟨rfl, rfl⟩)
                | (go_at_call 71; refine (argR _ _).mono ?_; rintro e w' ⟨rfl, rfl⟩))
              go_ret
              exact ⟨by rw [HS.out]; first | rfl | simp_all, HW.out.2⟩
          · have v0b : (a3 == 0) = false := by simp [v0]
            have HS := Lib.hid (show ok = false by rw [HS0.out]; simp [c0, c1, v0])
            clear HS0
            go_enter Tryz.func80, Tryz.ntmps80
            go_wp2_with (first
              | (with_reducible refine wpList_box_to _ _ rfl 26 (.tmp 0) rfl _ rfl HW.out.1 ?_)
              | (go_at_call 67; refine (withinR _ _ _ _).mono ?_; rintro e w' ⟨rfl, rfl⟩)
              | (go_at_call 71; refine (argR _ _).mono ?_; rintro e w' ⟨rfl, rfl⟩))
            go_ret
            exact ⟨by rw [HS.out]; first | rfl | simp_all, HW.out.2⟩
        · have k3b : (a2 == 3) = false := by simp [k3]
          by_cases k2 : a2 = 2
          · subst k2
            rcases Bool.eq_false_or_eq_true (inP a3 1 9007199254740991) with i1 | i1
            · rcases Bool.eq_false_or_eq_true (inP (L : Int) 1 1024) with i2 | i2
              · have HS := Lib.hid (show ok = true by rw [HS0.out]; simp [c0, c1, i1, i2])
                clear HS0
                go_enter Tryz.func80, Tryz.ntmps80
                go_wp2_with (first
                  | (with_reducible refine wpList_box_to _ _ rfl 26 (.tmp 0) rfl _ rfl HW.out.1 ?_)
                  | (go_at_call 67; refine (withinR _ _ _ _).mono ?_; rintro e w' ⟨rfl, rfl⟩)
                  | (go_at_call 71; refine (argR _ _).mono ?_; rintro e w' ⟨rfl, rfl⟩))
                go_ret
                exact ⟨by rw [HS.out]; first | rfl | simp_all, HW.out.2⟩
              · have HS := Lib.hid (show ok = false by rw [HS0.out]; simp [c0, c1, i1, i2])
                clear HS0
                go_enter Tryz.func80, Tryz.ntmps80
                go_wp2_with (first
                  | (with_reducible refine wpList_box_to _ _ rfl 26 (.tmp 0) rfl _ rfl HW.out.1 ?_)
                  | (go_at_call 67; refine (withinR _ _ _ _).mono ?_; rintro e w' ⟨rfl, rfl⟩)
                  | (go_at_call 71; refine (argR _ _).mono ?_; rintro e w' ⟨rfl, rfl⟩))
                go_ret
                exact ⟨by rw [HS.out]; first | rfl | simp_all, HW.out.2⟩
            · have HS := Lib.hid (show ok = false by rw [HS0.out]; simp [c0, c1, i1])
              clear HS0
              go_enter Tryz.func80, Tryz.ntmps80
              go_wp2_with (first
                | (with_reducible refine wpList_box_to _ _ rfl 26 (.tmp 0) rfl _ rfl HW.out.1 ?_)
                | (go_at_call 67; refine (withinR _ _ _ _).mono ?_; rintro e w' ⟨rfl, rfl⟩)
                | (go_at_call 71; refine (argR _ _).mono ?_; rintro e w' ⟨rfl, rfl⟩))
              go_ret
              exact ⟨by rw [HS.out]; first | rfl | simp_all, HW.out.2⟩
          · have k2b : (a2 == 2) = false := by simp [k2]
            by_cases k4 : a2 = 4
            · subst k4
              rcases Bool.eq_false_or_eq_true (inP a3 1 255) with i1 | i1
              · by_cases e0 : L = 0
                · subst e0
                  by_cases nz : nr = nameZ
                  · have dn : decide (nr = nameZ) = true := by simp [nz]
                    rw [dn] at HQ
                    have HS := Lib.hid (show ok = true by rw [HS0.out]; simp [c0, c1, i1, nz])
                    clear HS0
                    go_enter Tryz.func80, Tryz.ntmps80
                    go_wp2_with (first
                      | (with_reducible refine wpList_box_to _ _ rfl 26 (.tmp 0) rfl _ rfl HW.out.1 ?_)
                      | (go_at_call 67; refine (withinR _ _ _ _).mono ?_; rintro e w' ⟨rfl, rfl⟩)
                      | (go_at_call 71; refine (argR _ _).mono ?_; rintro e w' ⟨rfl, rfl⟩)
                      | (refine wpList_load_mid_g 23 (.tmp 60) rfl w.heap.size 4 rfl (nameL nr) _ HX.out Tryz.underlying23 rfl HI.out ?_ ?_; · rfl)
                      | (refine wpList_build_v_g _ 23 rfl _ (build_nameZ _) ?_ ?_; · rfl)
                      | (refine wpList_bin_agg_g _ .eql 23 23 (.tmp 61) (.tmp 62) rfl guardName (nameL nr).toArray (nameL nameZ).toArray rfl rfl _ HQ.out ?_ ?_; · rfl))
                    go_ret
                    exact ⟨by rw [HS.out]; first | rfl | simp_all, HW.out.2⟩
                  · have dn : decide (nr = nameZ) = false := by simp [nz]
                    rw [dn] at HQ
                    have HS := Lib.hid (show ok = false by rw [HS0.out]; simp [c0, c1, i1, nz])
                    clear HS0
                    go_enter Tryz.func80, Tryz.ntmps80
                    go_wp2_with (first
                      | (with_reducible refine wpList_box_to _ _ rfl 26 (.tmp 0) rfl _ rfl HW.out.1 ?_)
                      | (go_at_call 67; refine (withinR _ _ _ _).mono ?_; rintro e w' ⟨rfl, rfl⟩)
                      | (go_at_call 71; refine (argR _ _).mono ?_; rintro e w' ⟨rfl, rfl⟩)
                      | (refine wpList_load_mid_g 23 (.tmp 60) rfl w.heap.size 4 rfl (nameL nr) _ HX.out Tryz.underlying23 rfl HI.out ?_ ?_; · rfl)
                      | (refine wpList_build_v_g _ 23 rfl _ (build_nameZ _) ?_ ?_; · rfl)
                      | (refine wpList_bin_agg_g _ .eql 23 23 (.tmp 61) (.tmp 62) rfl guardName (nameL nr).toArray (nameL nameZ).toArray rfl rfl _ HQ.out ?_ ?_; · rfl))
                    go_ret
                    exact ⟨by rw [HS.out]; first | rfl | simp_all, HW.out.2⟩
                · have e0b : (L == 0) = false := by simp [e0]
                  have e1 : ((L : Int) == 0) = false := by simp [e0]
                  have HS := Lib.hid (show ok = false by rw [HS0.out]; simp [c0, c1, i1, e0])
                  clear HS0
                  go_enter Tryz.func80, Tryz.ntmps80
                  go_wp2_with (first
                    | (with_reducible refine wpList_box_to _ _ rfl 26 (.tmp 0) rfl _ rfl HW.out.1 ?_)
                    | (go_at_call 67; refine (withinR _ _ _ _).mono ?_; rintro e w' ⟨rfl, rfl⟩)
                    | (go_at_call 71; refine (argR _ _).mono ?_; rintro e w' ⟨rfl, rfl⟩))
                  go_ret
                  exact ⟨by rw [HS.out]; first | rfl | simp_all, HW.out.2⟩
              · have HS := Lib.hid (show ok = false by rw [HS0.out]; simp [c0, c1, i1])
                clear HS0
                go_enter Tryz.func80, Tryz.ntmps80
                go_wp2_with (first
                  | (with_reducible refine wpList_box_to _ _ rfl 26 (.tmp 0) rfl _ rfl HW.out.1 ?_)
                  | (go_at_call 67; refine (withinR _ _ _ _).mono ?_; rintro e w' ⟨rfl, rfl⟩)
                  | (go_at_call 71; refine (argR _ _).mono ?_; rintro e w' ⟨rfl, rfl⟩))
                go_ret
                exact ⟨by rw [HS.out]; first | rfl | simp_all, HW.out.2⟩
            · have k4b : (a2 == 4) = false := by simp [k4]
              have HS := Lib.hid (show ok = false by rw [HS0.out]; simp [c0, c1, k1, k2, k3, k4])
              clear HS0
              go_enter Tryz.func80, Tryz.ntmps80
              go_wp2_with (first
                | (with_reducible refine wpList_box_to _ _ rfl 26 (.tmp 0) rfl _ rfl HW.out.1 ?_)
                | (go_at_call 67; refine (withinR _ _ _ _).mono ?_; rintro e w' ⟨rfl, rfl⟩)
                | (go_at_call 71; refine (argR _ _).mono ?_; rintro e w' ⟨rfl, rfl⟩))
              go_ret
              exact ⟨by rw [HS.out]; first | rfl | simp_all, HW.out.2⟩
    · by_cases k1 : a2 = 1
      · subst k1
        have HS := Lib.hid (show ok = false by rw [HS0.out]; simp [c0, c1])
        clear HS0
        go_enter Tryz.func80, Tryz.ntmps80
        go_wp2_with (first
          | (with_reducible refine wpList_box_to _ _ rfl 26 (.tmp 0) rfl _ rfl HW.out.1 ?_)
          | (go_at_call 67; refine (withinR _ _ _ _).mono ?_; rintro e w' ⟨rfl, rfl⟩)
          | (go_at_call 71; refine (argR _ _).mono ?_; rintro e w' ⟨rfl, rfl⟩))
        go_ret
        exact ⟨by rw [HS.out]; first | rfl | simp_all, HW.out.2⟩
      · have k1b : (a2 == 1) = false := by simp [k1]
        by_cases k3 : a2 = 3
        · subst k3
          have HS := Lib.hid (show ok = false by rw [HS0.out]; simp [c0, c1])
          clear HS0
          go_enter Tryz.func80, Tryz.ntmps80
          go_wp2_with (first
            | (with_reducible refine wpList_box_to _ _ rfl 26 (.tmp 0) rfl _ rfl HW.out.1 ?_)
            | (go_at_call 67; refine (withinR _ _ _ _).mono ?_; rintro e w' ⟨rfl, rfl⟩)
            | (go_at_call 71; refine (argR _ _).mono ?_; rintro e w' ⟨rfl, rfl⟩))
          go_ret
          exact ⟨by rw [HS.out]; first | rfl | simp_all, HW.out.2⟩
        · have k3b : (a2 == 3) = false := by simp [k3]
          by_cases k2 : a2 = 2
          · subst k2
            have HS := Lib.hid (show ok = false by rw [HS0.out]; simp [c0, c1])
            clear HS0
            go_enter Tryz.func80, Tryz.ntmps80
            go_wp2_with (first
              | (with_reducible refine wpList_box_to _ _ rfl 26 (.tmp 0) rfl _ rfl HW.out.1 ?_)
              | (go_at_call 67; refine (withinR _ _ _ _).mono ?_; rintro e w' ⟨rfl, rfl⟩)
              | (go_at_call 71; refine (argR _ _).mono ?_; rintro e w' ⟨rfl, rfl⟩))
            go_ret
            exact ⟨by rw [HS.out]; first | rfl | simp_all, HW.out.2⟩
          · have k2b : (a2 == 2) = false := by simp [k2]
            by_cases k4 : a2 = 4
            · subst k4
              have HS := Lib.hid (show ok = false by rw [HS0.out]; simp [c0, c1])
              clear HS0
              go_enter Tryz.func80, Tryz.ntmps80
              go_wp2_with (first
                | (with_reducible refine wpList_box_to _ _ rfl 26 (.tmp 0) rfl _ rfl HW.out.1 ?_)
                | (go_at_call 67; refine (withinR _ _ _ _).mono ?_; rintro e w' ⟨rfl, rfl⟩)
                | (go_at_call 71; refine (argR _ _).mono ?_; rintro e w' ⟨rfl, rfl⟩))
              go_ret
              exact ⟨by rw [HS.out]; first | rfl | simp_all, HW.out.2⟩
            · have k4b : (a2 == 4) = false := by simp [k4]
              have HS := Lib.hid (show ok = false by rw [HS0.out]; simp [c0, c1, k1, k2, k3, k4])
              clear HS0
              go_enter Tryz.func80, Tryz.ntmps80
              go_wp2_with (first
                | (with_reducible refine wpList_box_to _ _ rfl 26 (.tmp 0) rfl _ rfl HW.out.1 ?_)
                | (go_at_call 67; refine (withinR _ _ _ _).mono ?_; rintro e w' ⟨rfl, rfl⟩)
                | (go_at_call 71; refine (argR _ _).mono ?_; rintro e w' ⟨rfl, rfl⟩))
              go_ret
              exact ⟨by rw [HS.out]; first | rfl | simp_all, HW.out.2⟩
  · by_cases k1 : a2 = 1
    · subst k1
      have HS := Lib.hid (show ok = false by rw [HS0.out]; simp [c0])
      clear HS0
      go_enter Tryz.func80, Tryz.ntmps80
      go_wp2_with (first
        | (with_reducible refine wpList_box_to _ _ rfl 26 (.tmp 0) rfl _ rfl HW.out.1 ?_)
        | (go_at_call 67; refine (withinR _ _ _ _).mono ?_; rintro e w' ⟨rfl, rfl⟩)
        | (go_at_call 71; refine (argR _ _).mono ?_; rintro e w' ⟨rfl, rfl⟩))
      go_ret
      exact ⟨by rw [HS.out]; first | rfl | simp_all, HW.out.2⟩
    · have k1b : (a2 == 1) = false := by simp [k1]
      by_cases k3 : a2 = 3
      · subst k3
        have HS := Lib.hid (show ok = false by rw [HS0.out]; simp [c0])
        clear HS0
        go_enter Tryz.func80, Tryz.ntmps80
        go_wp2_with (first
          | (with_reducible refine wpList_box_to _ _ rfl 26 (.tmp 0) rfl _ rfl HW.out.1 ?_)
          | (go_at_call 67; refine (withinR _ _ _ _).mono ?_; rintro e w' ⟨rfl, rfl⟩)
          | (go_at_call 71; refine (argR _ _).mono ?_; rintro e w' ⟨rfl, rfl⟩))
        go_ret
        exact ⟨by rw [HS.out]; first | rfl | simp_all, HW.out.2⟩
      · have k3b : (a2 == 3) = false := by simp [k3]
        by_cases k2 : a2 = 2
        · subst k2
          have HS := Lib.hid (show ok = false by rw [HS0.out]; simp [c0])
          clear HS0
          go_enter Tryz.func80, Tryz.ntmps80
          go_wp2_with (first
            | (with_reducible refine wpList_box_to _ _ rfl 26 (.tmp 0) rfl _ rfl HW.out.1 ?_)
            | (go_at_call 67; refine (withinR _ _ _ _).mono ?_; rintro e w' ⟨rfl, rfl⟩)
            | (go_at_call 71; refine (argR _ _).mono ?_; rintro e w' ⟨rfl, rfl⟩))
          go_ret
          exact ⟨by rw [HS.out]; first | rfl | simp_all, HW.out.2⟩
        · have k2b : (a2 == 2) = false := by simp [k2]
          by_cases k4 : a2 = 4
          · subst k4
            have HS := Lib.hid (show ok = false by rw [HS0.out]; simp [c0])
            clear HS0
            go_enter Tryz.func80, Tryz.ntmps80
            go_wp2_with (first
              | (with_reducible refine wpList_box_to _ _ rfl 26 (.tmp 0) rfl _ rfl HW.out.1 ?_)
              | (go_at_call 67; refine (withinR _ _ _ _).mono ?_; rintro e w' ⟨rfl, rfl⟩)
              | (go_at_call 71; refine (argR _ _).mono ?_; rintro e w' ⟨rfl, rfl⟩))
            go_ret
            exact ⟨by rw [HS.out]; first | rfl | simp_all, HW.out.2⟩
          · have k4b : (a2 == 4) = false := by simp [k4]
            have HS := Lib.hid (show ok = false by rw [HS0.out]; simp [c0, k1, k2, k3, k4])
            clear HS0
            go_enter Tryz.func80, Tryz.ntmps80
            go_wp2_with (first
              | (with_reducible refine wpList_box_to _ _ rfl 26 (.tmp 0) rfl _ rfl HW.out.1 ?_)
              | (go_at_call 67; refine (withinR _ _ _ _).mono ?_; rintro e w' ⟨rfl, rfl⟩)
              | (go_at_call 71; refine (argR _ _).mono ?_; rintro e w' ⟨rfl, rfl⟩))
            go_ret
            exact ⟨by rw [HS.out]; first | rfl | simp_all, HW.out.2⟩
end Go.Proofs.YthfdkonhjpdflaaGreatDoor
