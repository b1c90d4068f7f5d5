/-
  PACK, 10: which requests and answers may be.
-/
import Derived.Test.YthfdkonhjpdflaaGreatDoorPk9
namespace Go.Proofs.YthfdkonhjpdflaaGreatDoor
open Go.RowKit
set_option linter.unusedVariables false
set_option maxRecDepth 100000

def nameZ : List UInt8 := List.replicate 32 0
theorem nameZ_len : nameZ.length = 32 := List.length_replicate
theorem build_nameZ (w : World) : (Instr.build 23 #[]).run Tryz.prog w = .ok (.agg (nameL nameZ).toArray) w := by kernel_rfl
theorem wpList_build_v_g {P : Program} (w : World) {ops : Array Oper} {rest : List Oper} {o : Oper} {a : Act} {Q : Exit → Act → World → Prop} (t : TypeId) (ho : o.op = .build t #[])
    (v : Value) (hr : (Instr.build t #[]).run P w = .ok v w) (hw : Region.wanted o (yielded ops a.tmps) = true) (h : wpList P ops Q rest (a.put o.dst v) w) : wpList P ops Q (o :: rest) a w := by
  refine wpList_wantedP hw fun K hK => ?_
  have hK' := hK _ _ h
  unfold Oper.wp execOp
  simp only [ho, List.map_toArray, List.map_nil, Sem.run_bind, hr, Result.andThen_ok, Sem.run_pure]
  exact hK'
def RQ.ok (r : RQ) : Bool := inP r.client 0 2 && (inP r.num 1 9007199254740991 && (if r.kind = 1 ∨ r.kind = 3 then (r.version == 0) && (r.env.length == 0) else if r.kind = 2 then inP r.version 1 9007199254740991 && inP (r.env.length : Int) 1 1024 else if r.kind = 4 then inP r.version 1 255 && (decide (r.name = nameZ) && (r.env.length == 0)) else false))
def AN.ok (a : AN) : Bool := inP a.client 0 2 && (inP a.num 1 9007199254740991 && (inP a.code 0 3 && (inP a.version 0 9007199254740991 && (inP a.epoch 0 255 && decide (a.env.length ≤ 1024)))))
set_option maxHeartbeats 8000000 in
theorem checkReq_any (F : List Nat) (r : RQ) (ev : Value) (w : World) (h : rqV w F r ev) :
    Calls Tryz.prog 20 #[.agg (rqL r ev).toArray] w fun e w' => e = .returned (.int .i64 (toldP r.ok)) ∧ keepBut [] w w' := by
  obtain ⟨hn, A, c, g, rfl, _, hcm, _, _⟩ := h
  have hlm : r.env.length ≤ 9223372036854775807 := by unfold maxLen at hcm; omega
  have k1 := (keepBut.refl [] w).alloc (.cells (rqL r (.slice A r.env.length c)).toArray 26)
  have r1 := rowAt.new w 26 (rqL r (.slice A r.env.length c)).toArray
  obtain ⟨w1, hw1⟩ : ∃ w1, w.alloc (.cells (rqL r (.slice A r.env.length c)).toArray 26) = w1 := ⟨_, rfl⟩
  rw [hw1] at k1 r1
  have HW := Lib.hid (And.intro hw1 k1)
  have x0 : w1.cell? ⟨w.heap.size, 0, none⟩ = some (.int .i64 r.client) := r1.cell 0
  have x1 : w1.cell? ⟨w.heap.size, 1, none⟩ = some (.int .i64 r.num) := r1.cell 1
  have x2 : w1.cell? ⟨w.heap.size, 2, none⟩ = some (.int .i64 r.kind) := r1.cell 2
  have x3 : w1.cell? ⟨w.heap.size, 3, none⟩ = some (.int .i64 r.version) := r1.cell 3
  have x5 := (r1.cell 36).trans (rqL_env hn)
  have HX := Lib.hid (r1.range (rqL_name r (.slice A r.env.length c)))
  have HQ := Lib.hid (name_eql r.name nameZ hn nameZ_len w1)
  have HI := Lib.hid (show (Tryz.prog.info? 23).map (·.size) = some (nameL r.name).length by rw [nameL_len, hn]; exact infoName)
  have HS0 := Lib.hid (show r.ok = (inP r.client 0 2 && (inP r.num 1 9007199254740991 && (if r.kind = 1 ∨ r.kind = 3 then (r.version == 0) && (r.env.length == 0) else if r.kind = 2 then inP r.version 1 9007199254740991 && inP (r.env.length : Int) 1 1024 else if r.kind = 4 then inP r.version 1 255 && (decide (r.name = nameZ) && (r.env.length == 0)) else false))) from rfl)
  generalize r.ok = ok at *
  obtain ⟨a0, a1, a2, a3, nr, er⟩ := r
  dsimp only at hlm x0 x1 x2 x3 x5 HX HQ HI HS0 HW hn ⊢
  obtain ⟨L, hL⟩ : ∃ L, er.length = L := ⟨_, rfl⟩
  rw [hL] at hlm x5 HS0 HW ⊢
  clear k1 r1 hw1 hn hL
  rcases Bool.eq_false_or_eq_true (inP a0 0 2) with c0 | c0
  · rcases Bool.eq_false_or_eq_true (inP a1 1 9007199254740991) with c1 | c1
    · by_cases k1 : a2 = 1
      · subst k1
        by_cases v0 : a3 = 0
        · subst v0
          by_cases e0 : L = 0
          · subst e0
            have HS := Lib.hid (show ok = true by rw [HS0.out]; simp [c0, c1])
            clear HS0
            go_enter Tryz.func20, Tryz.ntmps20
            go_wp2_with (first
              | (with_reducible refine wpList_box_to _ _ rfl 26 (.tmp 0) rfl _ rfl HW.out.1 ?_)
              | (go_at_call 84; refine (isClient_any _ _).mono ?_; rintro e w' ⟨rfl, rfl⟩)
              | (go_at_call 85; refine (isPositive_any _ _).mono ?_; rintro e w' ⟨rfl, rfl⟩)
              | (go_at_call 66; refine (told_any _ _).mono ?_; rintro e w' ⟨rfl, rfl⟩))
            go_ret
            exact ⟨by rw [HS.out]; first | rfl | simp_all, HW.out.2⟩
          · have e1 : ((L : Int) == 0) = false := by simp [e0]
            have e2 : (L == 0) = false := by simp [e0]
            have HS := Lib.hid (show ok = false by rw [HS0.out]; simp [c0, c1, e0])
            clear HS0
            go_enter Tryz.func20, Tryz.ntmps20
            go_wp2_with (first
              | (with_reducible refine wpList_box_to _ _ rfl 26 (.tmp 0) rfl _ rfl HW.out.1 ?_)
              | (go_at_call 84; refine (isClient_any _ _).mono ?_; rintro e w' ⟨rfl, rfl⟩)
              | (go_at_call 85; refine (isPositive_any _ _).mono ?_; rintro e w' ⟨rfl, rfl⟩)
              | (go_at_call 66; refine (told_any _ _).mono ?_; rintro e w' ⟨rfl, rfl⟩))
            go_ret
            exact ⟨by rw [HS.out]; first | rfl | simp_all, HW.out.2⟩
        · have v1 : (a3 == 0) = false := by simp [v0]
          have HS := Lib.hid (show ok = false by rw [HS0.out]; simp [c0, c1, v0])
          clear HS0
          go_enter Tryz.func20, Tryz.ntmps20
          go_wp2_with (first
            | (with_reducible refine wpList_box_to _ _ rfl 26 (.tmp 0) rfl _ rfl HW.out.1 ?_)
            | (go_at_call 84; refine (isClient_any _ _).mono ?_; rintro e w' ⟨rfl, rfl⟩)
            | (go_at_call 85; refine (isPositive_any _ _).mono ?_; rintro e w' ⟨rfl, rfl⟩)
            | (go_at_call 66; refine (told_any _ _).mono ?_; rintro e w' ⟨rfl, rfl⟩))
          go_ret
          exact ⟨by rw [HS.out]; first | rfl | simp_all, HW.out.2⟩
      · have k1b : (a2 == 1) = false := by simp [k1]
        by_cases k3 : a2 = 3
        · subst k3
          clear k1
          by_cases v0 : a3 = 0
          · subst v0
            by_cases e0 : L = 0
            · subst e0
              have HS := Lib.hid (show ok = true by rw [HS0.out]; simp [c0, c1])
              clear HS0
              go_enter Tryz.func20, Tryz.ntmps20
              go_wp2_with (first
                | (with_reducible refine wpList_box_to _ _ rfl 26 (.tmp 0) rfl _ rfl HW.out.1 ?_)
                | (go_at_call 84; refine (isClient_any _ _).mono ?_; rintro e w' ⟨rfl, rfl⟩)
                | (go_at_call 85; refine (isPositive_any _ _).mono ?_; rintro e w' ⟨rfl, rfl⟩)
                | (go_at_call 66; refine (told_any _ _).mono ?_; rintro e w' ⟨rfl, rfl⟩))
              go_ret
              exact ⟨by rw [HS.out]; first | rfl | simp_all, HW.out.2⟩
            · have e1 : ((L : Int) == 0) = false := by simp [e0]
              have e2 : (L == 0) = false := by simp [e0]
              have HS := Lib.hid (show ok = false by rw [HS0.out]; simp [c0, c1, e0])
              clear HS0
              go_enter Tryz.func20, Tryz.ntmps20
              go_wp2_with (first
                | (with_reducible refine wpList_box_to _ _ rfl 26 (.tmp 0) rfl _ rfl HW.out.1 ?_)
                | (go_at_call 84; refine (isClient_any _ _).mono ?_; rintro e w' ⟨rfl, rfl⟩)
                | (go_at_call 85; refine (isPositive_any _ _).mono ?_; rintro e w' ⟨rfl, rfl⟩)
                | (go_at_call 66; refine (told_any _ _).mono ?_; rintro e w' ⟨rfl, rfl⟩))
              go_ret
              exact ⟨by rw [HS.out]; first | rfl | simp_all, HW.out.2⟩
          · have v1 : (a3 == 0) = false := by simp [v0]
            have HS := Lib.hid (show ok = false by rw [HS0.out]; simp [c0, c1, v0])
            clear HS0
            go_enter Tryz.func20, Tryz.ntmps20
            go_wp2_with (first
              | (with_reducible refine wpList_box_to _ _ rfl 26 (.tmp 0) rfl _ rfl HW.out.1 ?_)
              | (go_at_call 84; refine (isClient_any _ _).mono ?_; rintro e w' ⟨rfl, rfl⟩)
              | (go_at_call 85; refine (isPositive_any _ _).mono ?_; rintro e w' ⟨rfl, rfl⟩)
              | (go_at_call 66; refine (told_any _ _).mono ?_; rintro e w' ⟨rfl, rfl⟩))
            go_ret
            exact ⟨by rw [HS.out]; first | rfl | simp_all, HW.out.2⟩
        · have k3b : (a2 == 3) = false := by simp [k3]
          by_cases k2 : a2 = 2
          · subst k2
            rcases Bool.eq_false_or_eq_true (inP a3 1 9007199254740991) with v1 | v1
            · by_cases e1 : 1 ≤ (L : Int)
              · by_cases e2 : (L : Int) ≤ 1024
                · have i1 := inP_yes (n := (L : Int)) (lo := 1) (hi := 1024) ⟨e1, e2⟩
                  have d1 := decide_eq_true e1
                  have d2 := decide_eq_true e2
                  have HS := Lib.hid (show ok = true by rw [HS0.out]; simp [c0, c1, v1, i1])
                  clear HS0
                  go_enter Tryz.func20, Tryz.ntmps20
                  go_wp2_with (first
                    | (with_reducible refine wpList_box_to _ _ rfl 26 (.tmp 0) rfl _ rfl HW.out.1 ?_)
                    | (go_at_call 84; refine (isClient_any _ _).mono ?_; rintro e w' ⟨rfl, rfl⟩)
                    | (go_at_call 85; refine (isPositive_any _ _).mono ?_; rintro e w' ⟨rfl, rfl⟩)
                    | (go_at_call 66; refine (told_any _ _).mono ?_; rintro e w' ⟨rfl, rfl⟩))
                  go_ret
                  exact ⟨by rw [HS.out]; first | rfl | simp_all, HW.out.2⟩
                · have i1 := inP_no (n := (L : Int)) (lo := 1) (hi := 1024) (fun h => e2 h.2)
                  have d1 := decide_eq_true e1
                  have d2 := decide_eq_false e2
                  have HS := Lib.hid (show ok = false by rw [HS0.out]; simp [c0, c1, v1, i1])
                  clear HS0
                  go_enter Tryz.func20, Tryz.ntmps20
                  go_wp2_with (first
                    | (with_reducible refine wpList_box_to _ _ rfl 26 (.tmp 0) rfl _ rfl HW.out.1 ?_)
                    | (go_at_call 84; refine (isClient_any _ _).mono ?_; rintro e w' ⟨rfl, rfl⟩)
                    | (go_at_call 85; refine (isPositive_any _ _).mono ?_; rintro e w' ⟨rfl, rfl⟩)
                    | (go_at_call 66; refine (told_any _ _).mono ?_; rintro e w' ⟨rfl, rfl⟩))
                  go_ret
                  exact ⟨by rw [HS.out]; first | rfl | simp_all, HW.out.2⟩
              · have i1 := inP_no (n := (L : Int)) (lo := 1) (hi := 1024) (fun h => e1 h.1)
                have d1 := decide_eq_false e1
                have HS := Lib.hid (show ok = false by rw [HS0.out]; simp [c0, c1, v1, i1])
                clear HS0
                go_enter Tryz.func20, Tryz.ntmps20
                go_wp2_with (first
                  | (with_reducible refine wpList_box_to _ _ rfl 26 (.tmp 0) rfl _ rfl HW.out.1 ?_)
                  | (go_at_call 84; refine (isClient_any _ _).mono ?_; rintro e w' ⟨rfl, rfl⟩)
                  | (go_at_call 85; refine (isPositive_any _ _).mono ?_; rintro e w' ⟨rfl, rfl⟩)
                  | (go_at_call 66; refine (told_any _ _).mono ?_; rintro e w' ⟨rfl, rfl⟩))
                go_ret
                exact ⟨by rw [HS.out]; first | rfl | simp_all, HW.out.2⟩
            · have HS := Lib.hid (show ok = false by rw [HS0.out]; simp [c0, c1, v1])
              clear HS0
              go_enter Tryz.func20, Tryz.ntmps20
              go_wp2_with (first
                | (with_reducible refine wpList_box_to _ _ rfl 26 (.tmp 0) rfl _ rfl HW.out.1 ?_)
                | (go_at_call 84; refine (isClient_any _ _).mono ?_; rintro e w' ⟨rfl, rfl⟩)
                | (go_at_call 85; refine (isPositive_any _ _).mono ?_; rintro e w' ⟨rfl, rfl⟩)
                | (go_at_call 66; refine (told_any _ _).mono ?_; rintro e w' ⟨rfl, rfl⟩))
              go_ret
              exact ⟨by rw [HS.out]; first | rfl | simp_all, HW.out.2⟩
          · have k2b : (a2 == 2) = false := by simp [k2]
            by_cases k4 : a2 = 4
            · subst k4
              by_cases v1 : 1 ≤ a3
              · by_cases v2 : a3 ≤ 255
                · have i1 := inP_yes (n := a3) (lo := 1) (hi := 255) ⟨v1, v2⟩
                  have d1 := decide_eq_true v1
                  have d2 := decide_eq_true v2
                  by_cases nz : nr = nameZ
                  · have dn : decide (nr = nameZ) = true := by simp [nz]
                    rw [dn] at HQ
                    by_cases e0 : L = 0
                    · subst e0
                      have HS := Lib.hid (show ok = true by rw [HS0.out]; simp [c0, c1, i1, nz])
                      clear HS0
                      go_enter Tryz.func20, Tryz.ntmps20
                      go_wp2_with (first
                        | (with_reducible refine wpList_box_to _ _ rfl 26 (.tmp 0) rfl _ rfl HW.out.1 ?_)
                        | (go_at_call 84; refine (isClient_any _ _).mono ?_; rintro e w' ⟨rfl, rfl⟩)
                        | (go_at_call 85; refine (isPositive_any _ _).mono ?_; rintro e w' ⟨rfl, rfl⟩)
                        | (go_at_call 66; refine (told_any _ _).mono ?_; rintro e w' ⟨rfl, rfl⟩)
                        | (refine wpList_load_mid_g 23 (.tmp 57) rfl w.heap.size 4 rfl (nameL nr) _ HX.out Tryz.underlying23 rfl HI.out ?_ ?_; · rfl)
                        | (refine wpList_build_v_g _ 23 rfl _ (build_nameZ _) ?_ ?_; · rfl)
                        | (refine wpList_bin_agg_g _ .eql 23 23 (.tmp 58) (.tmp 59) rfl guardName (nameL nr).toArray (nameL nameZ).toArray rfl rfl _ HQ.out ?_ ?_; · rfl))
                      go_ret
                      exact ⟨by rw [HS.out]; first | rfl | simp_all, HW.out.2⟩
                    · have e1 : ((L : Int) == 0) = false := by simp [e0]
                      have HS := Lib.hid (show ok = false by rw [HS0.out]; simp [c0, c1, i1, nz, e0])
                      clear HS0
                      go_enter Tryz.func20, Tryz.ntmps20
                      go_wp2_with (first
                        | (with_reducible refine wpList_box_to _ _ rfl 26 (.tmp 0) rfl _ rfl HW.out.1 ?_)
                        | (go_at_call 84; refine (isClient_any _ _).mono ?_; rintro e w' ⟨rfl, rfl⟩)
                        | (go_at_call 85; refine (isPositive_any _ _).mono ?_; rintro e w' ⟨rfl, rfl⟩)
                        | (go_at_call 66; refine (told_any _ _).mono ?_; rintro e w' ⟨rfl, rfl⟩)
                        | (refine wpList_load_mid_g 23 (.tmp 57) rfl w.heap.size 4 rfl (nameL nr) _ HX.out Tryz.underlying23 rfl HI.out ?_ ?_; · rfl)
                        | (refine wpList_build_v_g _ 23 rfl _ (build_nameZ _) ?_ ?_; · rfl)
                        | (refine wpList_bin_agg_g _ .eql 23 23 (.tmp 58) (.tmp 59) rfl guardName (nameL nr).toArray (nameL nameZ).toArray rfl rfl _ HQ.out ?_ ?_; · rfl))
                      go_ret
                      exact ⟨by rw [HS.out]; first | rfl | simp_all, HW.out.2⟩
                  · have dn : decide (nr = nameZ) = false := by simp [nz]
                    rw [dn] at HQ
                    have HS := Lib.hid (show ok = false by rw [HS0.out]; simp [c0, c1, i1, nz])
                    clear HS0
                    go_enter Tryz.func20, Tryz.ntmps20
                    go_wp2_with (first
                      | (with_reducible refine wpList_box_to _ _ rfl 26 (.tmp 0) rfl _ rfl HW.out.1 ?_)
                      | (go_at_call 84; refine (isClient_any _ _).mono ?_; rintro e w' ⟨rfl, rfl⟩)
                      | (go_at_call 85; refine (isPositive_any _ _).mono ?_; rintro e w' ⟨rfl, rfl⟩)
                      | (go_at_call 66; refine (told_any _ _).mono ?_; rintro e w' ⟨rfl, rfl⟩)
                      | (refine wpList_load_mid_g 23 (.tmp 57) rfl w.heap.size 4 rfl (nameL nr) _ HX.out Tryz.underlying23 rfl HI.out ?_ ?_; · rfl)
                      | (refine wpList_build_v_g _ 23 rfl _ (build_nameZ _) ?_ ?_; · rfl)
                      | (refine wpList_bin_agg_g _ .eql 23 23 (.tmp 58) (.tmp 59) rfl guardName (nameL nr).toArray (nameL nameZ).toArray rfl rfl _ HQ.out ?_ ?_; · rfl))
                    go_ret
                    exact ⟨by rw [HS.out]; first | rfl | simp_all, HW.out.2⟩
                · have i1 := inP_no (n := a3) (lo := 1) (hi := 255) (fun h => v2 h.2)
                  have d1 := decide_eq_true v1
                  have d2 := decide_eq_false v2
                  have HS := Lib.hid (show ok = false by rw [HS0.out]; simp [c0, c1, i1])
                  clear HS0
                  go_enter Tryz.func20, Tryz.ntmps20
                  go_wp2_with (first
                    | (with_reducible refine wpList_box_to _ _ rfl 26 (.tmp 0) rfl _ rfl HW.out.1 ?_)
                    | (go_at_call 84; refine (isClient_any _ _).mono ?_; rintro e w' ⟨rfl, rfl⟩)
                    | (go_at_call 85; refine (isPositive_any _ _).mono ?_; rintro e w' ⟨rfl, rfl⟩)
                    | (go_at_call 66; refine (told_any _ _).mono ?_; rintro e w' ⟨rfl, rfl⟩))
                  go_ret
                  exact ⟨by rw [HS.out]; first | rfl | simp_all, HW.out.2⟩
              · have i1 := inP_no (n := a3) (lo := 1) (hi := 255) (fun h => v1 h.1)
                have d1 := decide_eq_false v1
                have HS := Lib.hid (show ok = false by rw [HS0.out]; simp [c0, c1, i1])
                clear HS0
                go_enter Tryz.func20, Tryz.ntmps20
                go_wp2_with (first
                  | (with_reducible refine wpList_box_to _ _ rfl 26 (.tmp 0) rfl _ rfl HW.out.1 ?_)
                  | (go_at_call 84; refine (isClient_any _ _).mono ?_; rintro e w' ⟨rfl, rfl⟩)
                  | (go_at_call 85; refine (isPositive_any _ _).mono ?_; rintro e w' ⟨rfl, rfl⟩)
                  | (go_at_call 66; refine (told_any _ _).mono ?_; rintro e w' ⟨rfl, rfl⟩))
                go_ret
                exact ⟨by rw [HS.out]; first | rfl | simp_all, HW.out.2⟩
            · have k4b : (a2 == 4) = false := by simp [k4]
              have HS := Lib.hid (show ok = false by rw [HS0.out]; simp [c0, c1, k1, k2, k3, k4])
              clear HS0
              go_enter Tryz.func20, Tryz.ntmps20
              go_wp2_with (first
                | (with_reducible refine wpList_box_to _ _ rfl 26 (.tmp 0) rfl _ rfl HW.out.1 ?_)
                | (go_at_call 84; refine (isClient_any _ _).mono ?_; rintro e w' ⟨rfl, rfl⟩)
                | (go_at_call 85; refine (isPositive_any _ _).mono ?_; rintro e w' ⟨rfl, rfl⟩)
                | (go_at_call 66; refine (told_any _ _).mono ?_; rintro e w' ⟨rfl, rfl⟩))
              go_ret
              exact ⟨by rw [HS.out]; first | rfl | simp_all, HW.out.2⟩
    · have HS := Lib.hid (show ok = false by rw [HS0.out]; simp [c0, c1])
      clear HS0
      go_enter Tryz.func20, Tryz.ntmps20
      go_wp2_with (first
        | (with_reducible refine wpList_box_to _ _ rfl 26 (.tmp 0) rfl _ rfl HW.out.1 ?_)
        | (go_at_call 84; refine (isClient_any _ _).mono ?_; rintro e w' ⟨rfl, rfl⟩)
        | (go_at_call 85; refine (isPositive_any _ _).mono ?_; rintro e w' ⟨rfl, rfl⟩)
        | (go_at_call 66; refine (told_any _ _).mono ?_; rintro e w' ⟨rfl, rfl⟩))
      go_ret
      exact ⟨by rw [HS.out]; first | rfl | simp_all, HW.out.2⟩
  · have HS := Lib.hid (show ok = false by rw [HS0.out]; simp [c0])
    clear HS0
    go_enter Tryz.func20, Tryz.ntmps20
    go_wp2_with (first
      | (with_reducible refine wpList_box_to _ _ rfl 26 (.tmp 0) rfl _ rfl HW.out.1 ?_)
      | (go_at_call 84; refine (isClient_any _ _).mono ?_; rintro e w' ⟨rfl, rfl⟩)
      | (go_at_call 85; refine (isPositive_any _ _).mono ?_; rintro e w' ⟨rfl, rfl⟩)
      | (go_at_call 66; refine (told_any _ _).mono ?_; rintro e w' ⟨rfl, rfl⟩))
    go_ret
    exact ⟨by rw [HS.out]; first | rfl | simp_all, HW.out.2⟩
end Go.Proofs.YthfdkonhjpdflaaGreatDoor
