/-
  RC, 5: the document's CheckAns.
-/
import Derived.Test.YthfdkonhjpdflaaGreatDoorRC4
import Derived.Test.YthfdkonhjpdflaaGreatDoorPk11
namespace Go.Proofs.YthfdkonhjpdflaaGreatDoor
open Go.RowKit
set_option linter.unusedVariables false
set_option maxRecDepth 100000
set_option linter.unusedSimpArgs false

set_option maxHeartbeats 8000000 in
theorem checkAnsD (F : List Nat) (r : AN) (ev : Value) (w : World) (h : anV w F r ev) :
    Calls Tryz.prog 82 #[.agg (anL r ev).toArray] w fun e w' => e = .returned (.int .i64 (toldP r.ok)) ∧ keepBut [] w w' := by
  obtain ⟨hn, A, c, g, rfl, _, hcm, _, _⟩ := h
  have hlm : r.env.length ≤ 9223372036854775807 := by unfold maxLen at hcm; omega
  have k1 := (keepBut.refl [] w).alloc (.cells (anL r (.slice A r.env.length c)).toArray 28)
  have r1 := rowAt.new w 28 (anL r (.slice A r.env.length c)).toArray
  obtain ⟨w1, hw1⟩ : ∃ w1, w.alloc (.cells (anL r (.slice A r.env.length c)).toArray 28) = w1 := ⟨_, rfl⟩
  rw [hw1] at k1 r1
  have HW := Lib.hid (And.intro hw1 k1)
  have x0 : w1.cell? ⟨w.heap.size, 0, none⟩ = some (.int .i64 r.client) := r1.cell 0
  have x1 : w1.cell? ⟨w.heap.size, 1, none⟩ = some (.int .i64 r.num) := r1.cell 1
  have x2 : w1.cell? ⟨w.heap.size, 2, none⟩ = some (.int .i64 r.code) := r1.cell 2
  have x3 : w1.cell? ⟨w.heap.size, 3, none⟩ = some (.int .i64 r.version) := r1.cell 3
  have x4 : w1.cell? ⟨w.heap.size, 4, none⟩ = some (.int .i64 r.epoch) := r1.cell 4
  have x5 := (r1.cell 37).trans (anL_env hn)
  have HS0 := Lib.hid (show r.ok = (inP r.client 0 2 && (inP r.num 1 9007199254740991 && (inP r.code 0 3 && (inP r.version 0 9007199254740991 && (inP r.epoch 0 255 && decide (r.env.length ≤ 1024)))))) from rfl)
  generalize r.ok = ok at *
  obtain ⟨a0, a1, a2, a3, a4, nr, er⟩ := r
  dsimp only at hlm x0 x1 x2 x3 x4 x5 HS0 HW hn ⊢
  obtain ⟨L, hL⟩ : ∃ L, er.length = L := ⟨_, rfl⟩
  rw [hL] at hlm x5 HS0 HW ⊢
  clear k1 r1 hw1 hn hL
  rcases Bool.eq_false_or_eq_true (inP a0 0 2) with c0 | c0
  · rcases Bool.eq_false_or_eq_true (inP a1 1 9007199254740991) with c1 | c1
    · rcases Bool.eq_false_or_eq_true (inP a2 0 3) with c2 | c2
      · rcases Bool.eq_false_or_eq_true (inP a3 0 9007199254740991) with c3 | c3
        · rcases Bool.eq_false_or_eq_true (inP a4 0 255) with c4 | c4
          · by_cases e0 : (L : Int) ≤ 1024
            · have e1 : L ≤ 1024 := by omega
              have d0 := decide_eq_true e0
              have HS := Lib.hid (show ok = true by rw [HS0.out]; simp [c0, c1, c2, c3, c4, e1])
              clear HS0
              go_enter Tryz.func82, Tryz.ntmps82
              go_wp2_with (first
                | (with_reducible refine wpList_box_to _ _ rfl 28 (.tmp 0) rfl _ rfl HW.out.1 ?_)
                | (go_at_call 67; refine (withinR _ _ _ _).mono ?_; rintro e w' ⟨rfl, rfl⟩)
                | (go_at_call 69; refine (numberR _ _).mono ?_; rintro e w' ⟨rfl, rfl⟩)
                | (go_at_call 71; refine (argR _ _).mono ?_; rintro e w' ⟨rfl, rfl⟩))
              go_ret
              exact ⟨by rw [HS.out]; first | rfl | simp_all, HW.out.2⟩
            · have e1 : ¬ L ≤ 1024 := by omega
              have d0 := decide_eq_false e0
              have HS := Lib.hid (show ok = false by rw [HS0.out]; simp [c0, c1, c2, c3, c4, e1])
              clear HS0
              go_enter Tryz.func82, Tryz.ntmps82
              go_wp2_with (first
                | (with_reducible refine wpList_box_to _ _ rfl 28 (.tmp 0) rfl _ rfl HW.out.1 ?_)
                | (go_at_call 67; refine (withinR _ _ _ _).mono ?_; rintro e w' ⟨rfl, rfl⟩)
                | (go_at_call 69; refine (numberR _ _).mono ?_; rintro e w' ⟨rfl, rfl⟩)
                | (go_at_call 71; refine (argR _ _).mono ?_; rintro e w' ⟨rfl, rfl⟩))
              go_ret
              exact ⟨by rw [HS.out]; first | rfl | simp_all, HW.out.2⟩
          · have HS := Lib.hid (show ok = false by rw [HS0.out]; simp [c0, c1, c2, c3, c4])
            clear HS0
            go_enter Tryz.func82, Tryz.ntmps82
            go_wp2_with (first
              | (with_reducible refine wpList_box_to _ _ rfl 28 (.tmp 0) rfl _ rfl HW.out.1 ?_)
              | (go_at_call 67; refine (withinR _ _ _ _).mono ?_; rintro e w' ⟨rfl, rfl⟩)
              | (go_at_call 69; refine (numberR _ _).mono ?_; rintro e w' ⟨rfl, rfl⟩)
              | (go_at_call 71; refine (argR _ _).mono ?_; rintro e w' ⟨rfl, rfl⟩))
            go_ret
            exact ⟨by rw [HS.out]; first | rfl | simp_all, HW.out.2⟩
        · have HS := Lib.hid (show ok = false by rw [HS0.out]; simp [c0, c1, c2, c3])
          clear HS0
          go_enter Tryz.func82, Tryz.ntmps82
          go_wp2_with (first
            | (with_reducible refine wpList_box_to _ _ rfl 28 (.tmp 0) rfl _ rfl HW.out.1 ?_)
            | (go_at_call 67; refine (withinR _ _ _ _).mono ?_; rintro e w' ⟨rfl, rfl⟩)
            | (go_at_call 69; refine (numberR _ _).mono ?_; rintro e w' ⟨rfl, rfl⟩)
            | (go_at_call 71; refine (argR _ _).mono ?_; rintro e w' ⟨rfl, rfl⟩))
          go_ret
          exact ⟨by rw [HS.out]; first | rfl | simp_all, HW.out.2⟩
      · have HS := Lib.hid (show ok = false by rw [HS0.out]; simp [c0, c1, c2])
        clear HS0
        go_enter Tryz.func82, Tryz.ntmps82
        go_wp2_with (first
          | (with_reducible refine wpList_box_to _ _ rfl 28 (.tmp 0) rfl _ rfl HW.out.1 ?_)
          | (go_at_call 67; refine (withinR _ _ _ _).mono ?_; rintro e w' ⟨rfl, rfl⟩)
          | (go_at_call 69; refine (numberR _ _).mono ?_; rintro e w' ⟨rfl, rfl⟩)
          | (go_at_call 71; refine (argR _ _).mono ?_; rintro e w' ⟨rfl, rfl⟩))
        go_ret
        exact ⟨by rw [HS.out]; first | rfl | simp_all, HW.out.2⟩
    · have HS := Lib.hid (show ok = false by rw [HS0.out]; simp [c0, c1])
      clear HS0
      go_enter Tryz.func82, Tryz.ntmps82
      go_wp2_with (first
        | (with_reducible refine wpList_box_to _ _ rfl 28 (.tmp 0) rfl _ rfl HW.out.1 ?_)
        | (go_at_call 67; refine (withinR _ _ _ _).mono ?_; rintro e w' ⟨rfl, rfl⟩)
        | (go_at_call 69; refine (numberR _ _).mono ?_; rintro e w' ⟨rfl, rfl⟩)
        | (go_at_call 71; refine (argR _ _).mono ?_; rintro e w' ⟨rfl, rfl⟩))
      go_ret
      exact ⟨by rw [HS.out]; first | rfl | simp_all, HW.out.2⟩
  · have HS := Lib.hid (show ok = false by rw [HS0.out]; simp [c0])
    clear HS0
    go_enter Tryz.func82, Tryz.ntmps82
    go_wp2_with (first
      | (with_reducible refine wpList_box_to _ _ rfl 28 (.tmp 0) rfl _ rfl HW.out.1 ?_)
      | (go_at_call 67; refine (withinR _ _ _ _).mono ?_; rintro e w' ⟨rfl, rfl⟩)
      | (go_at_call 69; refine (numberR _ _).mono ?_; rintro e w' ⟨rfl, rfl⟩)
      | (go_at_call 71; refine (argR _ _).mono ?_; rintro e w' ⟨rfl, rfl⟩))
    go_ret
    exact ⟨by rw [HS.out]; first | rfl | simp_all, HW.out.2⟩
end Go.Proofs.YthfdkonhjpdflaaGreatDoor
