/-
  PACK, 11: which answers may be.
-/
import Derived.Test.YthfdkonhjpdflaaGreatDoorPk10
namespace Go.Proofs.YthfdkonhjpdflaaGreatDoor
open Go.RowKit
set_option linter.unusedVariables false
set_option maxRecDepth 100000

set_option maxHeartbeats 8000000 in
theorem checkAns_any (F : List Nat) (r : AN) (ev : Value) (w : World) (h : anV w F r ev) :
    Calls Tryz.prog 21 #[.agg (anL r ev).toArray] w fun e w' => e = .returned (.int .i64 (toldP r.ok)) ∧ keepBut [] w w' := by
  obtain ⟨hn, A, c, g, rfl, _, hcm, _, _⟩ := h
  have hlm : r.env.length ≤ 9223372036854775807 := by unfold maxLen at hcm; omega
  have k1 := (keepBut.refl [] w).alloc (.cells (anL r (.slice A r.env.length c)).toArray 28)
  have r1 := rowAt.new w 28 (anL r (.slice A r.env.length c)).toArray
  obtain ⟨w1, hw1⟩ : ∃ w1, w.alloc (.cells (anL r (.slice A r.env.length c)).toArray 28) = w1 := ⟨_, rfl⟩
  rw [hw1] at k1 r1
  have HW := Lib.hid (And.intro hw1 k1)
  have x0 : w1.cell? ⟨w.heap.size, 0, none⟩ = some (.int .i64 r.client) := r1.cell 0
  have x1 : w1.cell? ⟨w.heap.size, 1, none⟩ = some (.int .i64 r.num) := r1.cell 1
  have x2 : w1.cell? ⟨w.heap.size, 2, none⟩ = some (.int .i64 r.code) := r1.cell 2
  have x3 : w1.cell? ⟨w.heap.size, 3, none⟩ = some (.int .i64 r.version) := r1.cell 3
  have x4 : w1.cell? ⟨w.heap.size, 4, none⟩ = some (.int .i64 r.epoch) := r1.cell 4
  have x5 := (r1.cell 37).trans (anL_env hn)
  have HS0 := Lib.hid (show r.ok = (inP r.client 0 2 && (inP r.num 1 9007199254740991 && (inP r.code 0 3 && (inP r.version 0 9007199254740991 && (inP r.epoch 0 255 && decide (r.env.length ≤ 1024)))))) from rfl)
  generalize r.ok = ok at *
  obtain ⟨a0, a1, a2, a3, a4, nr, er⟩ := r
  dsimp only at hlm x0 x1 x2 x3 x4 x5 HS0 HW hn ⊢
  obtain ⟨L, hL⟩ : ∃ L, er.length = L := ⟨_, rfl⟩
  rw [hL] at hlm x5 HS0 HW ⊢
  clear k1 r1 hw1 hn hL
  rcases Bool.eq_false_or_eq_true (inP a0 0 2) with c0 | c0
  · skip
    rcases Bool.eq_false_or_eq_true (inP a1 1 9007199254740991) with c1 | c1
    · skip
      by_cases c2a : 0 ≤ a2
      · by_cases c2b : a2 ≤ 3
        · skip
          have c2 := inP_yes (n := a2) (lo := 0) (hi := 3) ⟨c2a, c2b⟩
          have dc2a := decide_eq_true c2a
          have dc2b := decide_eq_true c2b
          rcases Bool.eq_false_or_eq_true (inP a3 0 9007199254740991) with c3 | c3
          · skip
            by_cases c4a : 0 ≤ a4
            · by_cases c4b : a4 ≤ 255
              · skip
                have c4 := inP_yes (n := a4) (lo := 0) (hi := 255) ⟨c4a, c4b⟩
                have dc4a := decide_eq_true c4a
                have dc4b := decide_eq_true c4b
                by_cases e0 : (L : Int) ≤ 1024
                · skip
                  have e1 : L ≤ 1024 := by omega
                  have d0 := decide_eq_true e0
                  have HS := Lib.hid (show ok = true by rw [HS0.out]; simp [c0, c1, c2, c3, c4, e1])
                  clear HS0
                  go_enter Tryz.func21, Tryz.ntmps21
                  go_wp2_with (first
                    | (with_reducible refine wpList_box_to _ _ rfl 28 (.tmp 0) rfl _ rfl HW.out.1 ?_)
                    | (go_at_call 84; refine (isClient_any _ _).mono ?_; rintro e w' ⟨rfl, rfl⟩)
                    | (go_at_call 85; refine (isPositive_any _ _).mono ?_; rintro e w' ⟨rfl, rfl⟩)
                    | (go_at_call 63; refine (isNumber_any _ _).mono ?_; rintro e w' ⟨rfl, rfl⟩)
                    | (go_at_call 66; refine (told_any _ _).mono ?_; rintro e w' ⟨rfl, rfl⟩))
                  go_ret
                  exact ⟨by rw [HS.out]; first | rfl | simp_all, HW.out.2⟩
                · skip
                  have e1 : ¬ L ≤ 1024 := by omega
                  have d0 := decide_eq_false e0
                  have HS := Lib.hid (show ok = false by rw [HS0.out]; simp [c0, c1, c2, c3, c4, e1])
                  clear HS0
                  go_enter Tryz.func21, Tryz.ntmps21
                  go_wp2_with (first
                    | (with_reducible refine wpList_box_to _ _ rfl 28 (.tmp 0) rfl _ rfl HW.out.1 ?_)
                    | (go_at_call 84; refine (isClient_any _ _).mono ?_; rintro e w' ⟨rfl, rfl⟩)
                    | (go_at_call 85; refine (isPositive_any _ _).mono ?_; rintro e w' ⟨rfl, rfl⟩)
                    | (go_at_call 63; refine (isNumber_any _ _).mono ?_; rintro e w' ⟨rfl, rfl⟩)
                    | (go_at_call 66; refine (told_any _ _).mono ?_; rintro e w' ⟨rfl, rfl⟩))
                  go_ret
                  exact ⟨by rw [HS.out]; first | rfl | simp_all, HW.out.2⟩
              · skip
                have c4 := inP_no (n := a4) (lo := 0) (hi := 255) (fun h => c4b h.2)
                have dc4a := decide_eq_true c4a
                have dc4b := decide_eq_false c4b
                have HS := Lib.hid (show ok = false by rw [HS0.out]; simp [c0, c1, c2, c3, c4])
                clear HS0
                go_enter Tryz.func21, Tryz.ntmps21
                go_wp2_with (first
                  | (with_reducible refine wpList_box_to _ _ rfl 28 (.tmp 0) rfl _ rfl HW.out.1 ?_)
                  | (go_at_call 84; refine (isClient_any _ _).mono ?_; rintro e w' ⟨rfl, rfl⟩)
                  | (go_at_call 85; refine (isPositive_any _ _).mono ?_; rintro e w' ⟨rfl, rfl⟩)
                  | (go_at_call 63; refine (isNumber_any _ _).mono ?_; rintro e w' ⟨rfl, rfl⟩)
                  | (go_at_call 66; refine (told_any _ _).mono ?_; rintro e w' ⟨rfl, rfl⟩))
                go_ret
                exact ⟨by rw [HS.out]; first | rfl | simp_all, HW.out.2⟩
            · skip
              have c4 := inP_no (n := a4) (lo := 0) (hi := 255) (fun h => c4a h.1)
              have dc4a := decide_eq_false c4a
              have HS := Lib.hid (show ok = false by rw [HS0.out]; simp [c0, c1, c2, c3, c4])
              clear HS0
              go_enter Tryz.func21, Tryz.ntmps21
              go_wp2_with (first
                | (with_reducible refine wpList_box_to _ _ rfl 28 (.tmp 0) rfl _ rfl HW.out.1 ?_)
                | (go_at_call 84; refine (isClient_any _ _).mono ?_; rintro e w' ⟨rfl, rfl⟩)
                | (go_at_call 85; refine (isPositive_any _ _).mono ?_; rintro e w' ⟨rfl, rfl⟩)
                | (go_at_call 63; refine (isNumber_any _ _).mono ?_; rintro e w' ⟨rfl, rfl⟩)
                | (go_at_call 66; refine (told_any _ _).mono ?_; rintro e w' ⟨rfl, rfl⟩))
              go_ret
              exact ⟨by rw [HS.out]; first | rfl | simp_all, HW.out.2⟩
          · skip
            have HS := Lib.hid (show ok = false by rw [HS0.out]; simp [c0, c1, c2, c3])
            clear HS0
            go_enter Tryz.func21, Tryz.ntmps21
            go_wp2_with (first
              | (with_reducible refine wpList_box_to _ _ rfl 28 (.tmp 0) rfl _ rfl HW.out.1 ?_)
              | (go_at_call 84; refine (isClient_any _ _).mono ?_; rintro e w' ⟨rfl, rfl⟩)
              | (go_at_call 85; refine (isPositive_any _ _).mono ?_; rintro e w' ⟨rfl, rfl⟩)
              | (go_at_call 63; refine (isNumber_any _ _).mono ?_; rintro e w' ⟨rfl, rfl⟩)
              | (go_at_call 66; refine (told_any _ _).mono ?_; rintro e w' ⟨rfl, rfl⟩))
            go_ret
            exact ⟨by rw [HS.out]; first | rfl | simp_all, HW.out.2⟩
        · skip
          have c2 := inP_no (n := a2) (lo := 0) (hi := 3) (fun h => c2b h.2)
          have dc2a := decide_eq_true c2a
          have dc2b := decide_eq_false c2b
          have HS := Lib.hid (show ok = false by rw [HS0.out]; simp [c0, c1, c2])
          clear HS0
          go_enter Tryz.func21, Tryz.ntmps21
          go_wp2_with (first
            | (with_reducible refine wpList_box_to _ _ rfl 28 (.tmp 0) rfl _ rfl HW.out.1 ?_)
            | (go_at_call 84; refine (isClient_any _ _).mono ?_; rintro e w' ⟨rfl, rfl⟩)
            | (go_at_call 85; refine (isPositive_any _ _).mono ?_; rintro e w' ⟨rfl, rfl⟩)
            | (go_at_call 63; refine (isNumber_any _ _).mono ?_; rintro e w' ⟨rfl, rfl⟩)
            | (go_at_call 66; refine (told_any _ _).mono ?_; rintro e w' ⟨rfl, rfl⟩))
          go_ret
          exact ⟨by rw [HS.out]; first | rfl | simp_all, HW.out.2⟩
      · skip
        have c2 := inP_no (n := a2) (lo := 0) (hi := 3) (fun h => c2a h.1)
        have dc2a := decide_eq_false c2a
        have HS := Lib.hid (show ok = false by rw [HS0.out]; simp [c0, c1, c2])
        clear HS0
        go_enter Tryz.func21, Tryz.ntmps21
        go_wp2_with (first
          | (with_reducible refine wpList_box_to _ _ rfl 28 (.tmp 0) rfl _ rfl HW.out.1 ?_)
          | (go_at_call 84; refine (isClient_any _ _).mono ?_; rintro e w' ⟨rfl, rfl⟩)
          | (go_at_call 85; refine (isPositive_any _ _).mono ?_; rintro e w' ⟨rfl, rfl⟩)
          | (go_at_call 63; refine (isNumber_any _ _).mono ?_; rintro e w' ⟨rfl, rfl⟩)
          | (go_at_call 66; refine (told_any _ _).mono ?_; rintro e w' ⟨rfl, rfl⟩))
        go_ret
        exact ⟨by rw [HS.out]; first | rfl | simp_all, HW.out.2⟩
    · skip
      have HS := Lib.hid (show ok = false by rw [HS0.out]; simp [c0, c1])
      clear HS0
      go_enter Tryz.func21, Tryz.ntmps21
      go_wp2_with (first
        | (with_reducible refine wpList_box_to _ _ rfl 28 (.tmp 0) rfl _ rfl HW.out.1 ?_)
        | (go_at_call 84; refine (isClient_any _ _).mono ?_; rintro e w' ⟨rfl, rfl⟩)
        | (go_at_call 85; refine (isPositive_any _ _).mono ?_; rintro e w' ⟨rfl, rfl⟩)
        | (go_at_call 63; refine (isNumber_any _ _).mono ?_; rintro e w' ⟨rfl, rfl⟩)
        | (go_at_call 66; refine (told_any _ _).mono ?_; rintro e w' ⟨rfl, rfl⟩))
      go_ret
      exact ⟨by rw [HS.out]; first | rfl | simp_all, HW.out.2⟩
  · skip
    have HS := Lib.hid (show ok = false by rw [HS0.out]; simp [c0])
    clear HS0
    go_enter Tryz.func21, Tryz.ntmps21
    go_wp2_with (first
      | (with_reducible refine wpList_box_to _ _ rfl 28 (.tmp 0) rfl _ rfl HW.out.1 ?_)
      | (go_at_call 84; refine (isClient_any _ _).mono ?_; rintro e w' ⟨rfl, rfl⟩)
      | (go_at_call 85; refine (isPositive_any _ _).mono ?_; rintro e w' ⟨rfl, rfl⟩)
      | (go_at_call 63; refine (isNumber_any _ _).mono ?_; rintro e w' ⟨rfl, rfl⟩)
      | (go_at_call 66; refine (told_any _ _).mono ?_; rintro e w' ⟨rfl, rfl⟩))
    go_ret
    exact ⟨by rw [HS.out]; first | rfl | simp_all, HW.out.2⟩
end Go.Proofs.YthfdkonhjpdflaaGreatDoor
