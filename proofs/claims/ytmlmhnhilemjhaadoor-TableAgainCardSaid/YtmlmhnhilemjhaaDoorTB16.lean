/-
  TABLE, 16: which requests may be (seal.Sized, table.Check).
-/
import Derived.Test.YtmlmhnhilemjhaaDoorTB15
namespace Go.Proofs.YtmlmhnhilemjhaaDoor
open Go.RowKit
set_option linter.unusedVariables false
set_option maxRecDepth 100000
set_option linter.unusedSimpArgs false

theorem isClient_any (n : Int) (w : World) : Calls Tryd.prog 47 #[.int .i64 n] w fun e w' => e = .returned (.bool (inP n 0 2)) ∧ w = w' := by
  by_cases h0 : 0 ≤ n
  · by_cases h1 : n < 3
    · go_enter Tryd.func47, Tryd.ntmps47
      go_wp2
      go_ret
      exact ⟨by rw [inP_yes ⟨h0, by omega⟩]; rfl, rfl⟩
    · go_enter Tryd.func47, Tryd.ntmps47
      go_wp2
      go_ret
      exact ⟨by rw [inP_no (by omega)]; rfl, rfl⟩
  · go_enter Tryd.func47, Tryd.ntmps47
    go_wp2
    go_ret
    exact ⟨by rw [inP_no (by omega)]; rfl, rfl⟩
theorem isPositive_any (n : Int) (w : World) : Calls Tryd.prog 48 #[.int .i64 n] w fun e w' => e = .returned (.bool (inP n 1 9007199254740991)) ∧ w = w' := by
  by_cases h0 : 1 ≤ n
  · by_cases h1 : n ≤ 9007199254740991
    · go_enter Tryd.func48, Tryd.ntmps48
      go_wp2
      go_ret
      exact ⟨by rw [inP_yes ⟨h0, h1⟩]; rfl, rfl⟩
    · go_enter Tryd.func48, Tryd.ntmps48
      go_wp2
      go_ret
      exact ⟨by rw [inP_no (by omega)]; rfl, rfl⟩
  · go_enter Tryd.func48, Tryd.ntmps48
    go_wp2
    go_ret
    exact ⟨by rw [inP_no (by omega)]; rfl, rfl⟩
theorem told_any (b : Bool) (w : World) : Calls Tryd.prog 49 #[.bool b] w fun e w' => e = .returned (.int .i64 (toldP b)) ∧ w = w' := by
  cases b
  all_goals
    go_enter Tryd.func49, Tryd.ntmps49
    go_wp2
    go_ret
    exact ⟨rfl, rfl⟩
/-- the table of sizes, as the program's text lays it -/
def sizesAt (w : World) : Prop := w.cell? ⟨0, 0, none⟩ = some (.int .i64 45) ∧ w.cell? ⟨0, 1, none⟩ = some (.int .i64 93) ∧ w.cell? ⟨0, 2, none⟩ = some (.int .i64 285)
theorem sizesAt.keep {S : List Nat} {w w' : World} (h : sizesAt w) (hk : keepBut S w w') (hS : 0 ∉ S) : sizesAt w' := by
  obtain ⟨h0, h1, h2⟩ := h
  have k : ∀ (j : Nat) (v : Value), w.cell? ⟨0, j, none⟩ = some v → w'.cell? ⟨0, j, none⟩ = some v := fun j v hv => (hk.cell (p := ⟨0, j, none⟩) (World.block_lt_of_cell? w _ hv) hS).trans hv
  exact ⟨k _ _ h0, k _ _ h1, k _ _ h2⟩
def sizedP (n : Int) : Bool := (n == 45) || ((n == 93) || (n == 285))
theorem szx0 (w : World) : (Instr.index 26 (.agg #[.int .i64 45, .int .i64 93, .int .i64 285]) (.int .i64 0)).run Tryd.prog w = .ok (.int .i64 45) w := by kernel_rfl
theorem szx1 (w : World) : (Instr.index 26 (.agg #[.int .i64 45, .int .i64 93, .int .i64 285]) (.int .i64 1)).run Tryd.prog w = .ok (.int .i64 93) w := by kernel_rfl
theorem szx2 (w : World) : (Instr.index 26 (.agg #[.int .i64 45, .int .i64 93, .int .i64 285]) (.int .i64 2)).run Tryd.prog w = .ok (.int .i64 285) w := by kernel_rfl
set_option maxHeartbeats 1000000 in
theorem sized_any (n : Int) (w : World) (h : sizesAt w) : Calls Tryd.prog 50 #[.int .i64 n] w fun e w' => e = .returned (.bool (sizedP n)) ∧ w = w' := by
  obtain ⟨h0, h1, h2⟩ := h
  have i0 := szx0
  have i1 := szx1
  have i2 := szx2
  have cs : (n = 45 ∧ sizedP n = true) ∨ ((n == 45) = false ∧ n = 93 ∧ sizedP n = true) ∨ ((n == 45) = false ∧ (n == 93) = false ∧ n = 285 ∧ sizedP n = true) ∨ ((n == 45) = false ∧ (n == 93) = false ∧ (n == 285) = false ∧ sizedP n = false) := by
    unfold sizedP
    by_cases a : n = 45
    · subst a; exact .inl ⟨rfl, rfl⟩
    · have a' : (n == 45) = false := by simp [a]
      by_cases b : n = 93
      · subst b; exact .inr (.inl ⟨rfl, rfl, rfl⟩)
      · have b' : (n == 93) = false := by simp [b]
        by_cases c : n = 285
        · subst c; exact .inr (.inr (.inl ⟨rfl, rfl, rfl, rfl⟩))
        · have c' : (n == 285) = false := by simp [c]
          exact .inr (.inr (.inr ⟨a', b', c', by simp [a', b', c']⟩))
  rcases cs with ⟨a, hp⟩ | ⟨a, b, hp⟩ | ⟨a, b, c, hp⟩ | ⟨a, b, c, hp⟩
  all_goals
    have HP := Lib.hid hp
    clear hp
    try subst b
    try subst c
    try subst a
    go_enter Tryd.func50, Tryd.ntmps50
    go_wp2
    refine wp_loop_rounds 4 ?_
    rw [rounds_succ]
    go_wp2
    try (rw [rounds_succ]; go_wp2)
    try (rw [rounds_succ]; go_wp2)
    try (rw [rounds_succ]; go_wp2)
    go_ret
    exact ⟨by rw [HP.out]; rfl, rfl⟩
/-- table's rule for requests -/
def RQ.tok (r : RQ) : Bool := inP r.client 0 2 && (inP r.num 1 9007199254740991 && (if r.kind = 1 ∨ r.kind = 3 then (r.version == 0) && (r.env.length == 0) else if r.kind = 2 then inP r.version 1 9007199254740991 && sizedP (r.env.length : Int) else if r.kind = 4 then inP r.version 1 255 && (decide (r.name = nameZ) && (r.env.length == 0)) else false))
set_option maxHeartbeats 8000000 in
theorem tcheck_any (F : List Nat) (r : RQ) (ev : Value) (w : World) (h : rqV w F r ev) (hsz : sizesAt w) :
    Calls Tryd.prog 26 #[.agg (rqL r ev).toArray] w fun e w' => e = .returned (.int .i64 (toldP r.tok)) ∧ keepBut [] w w' := by
  obtain ⟨hn, A, c, g, rfl, _, hcm, _, _⟩ := h
  have hlm : r.env.length ≤ 9223372036854775807 := by unfold maxLen at hcm; omega
  have k1 := (keepBut.refl [] w).alloc (.cells (rqL r (.slice A r.env.length c)).toArray 31)
  have r1 := rowAt.new w 31 (rqL r (.slice A r.env.length c)).toArray
  obtain ⟨w1, hw1⟩ : ∃ w1, w.alloc (.cells (rqL r (.slice A r.env.length c)).toArray 31) = w1 := ⟨_, rfl⟩
  rw [hw1] at k1 r1
  have HW := Lib.hid (And.intro hw1 k1)
  have x0 : w1.cell? ⟨w.heap.size, 0, none⟩ = some (.int .i64 r.client) := r1.cell 0
  have x1 : w1.cell? ⟨w.heap.size, 1, none⟩ = some (.int .i64 r.num) := r1.cell 1
  have x2 : w1.cell? ⟨w.heap.size, 2, none⟩ = some (.int .i64 r.kind) := r1.cell 2
  have x3 : w1.cell? ⟨w.heap.size, 3, none⟩ = some (.int .i64 r.version) := r1.cell 3
  have x5 := (r1.cell 36).trans (rqL_env hn)
  have HZ := Lib.hid (hsz.keep k1 (by simp))
  have HX := Lib.hid (r1.range (rqL_name r (.slice A r.env.length c)))
  have HQ := Lib.hid (name_eql r.name nameZ hn nameZ_len w1)
  have HI := Lib.hid (show (Tryd.prog.info? 28).map (·.size) = some (nameL r.name).length by rw [nameL_len, hn]; exact infoName)
  have HS0 := Lib.hid (show r.tok = (inP r.client 0 2 && (inP r.num 1 9007199254740991 && (if r.kind = 1 ∨ r.kind = 3 then (r.version == 0) && (r.env.length == 0) else if r.kind = 2 then inP r.version 1 9007199254740991 && sizedP (r.env.length : Int) else if r.kind = 4 then inP r.version 1 255 && (decide (r.name = nameZ) && (r.env.length == 0)) else false))) from rfl)
  generalize r.tok = ok at *
  obtain ⟨a0, a1, a2, a3, nr, er⟩ := r
  dsimp only at hlm x0 x1 x2 x3 x5 HX HQ HI HS0 HW HZ hn ⊢
  obtain ⟨L, hL⟩ : ∃ L, er.length = L := ⟨_, rfl⟩
  rw [hL] at hlm x5 HS0 HW ⊢
  clear k1 r1 hw1 hn hL hsz
  rcases Bool.eq_false_or_eq_true (inP a0 0 2) with c0 | c0
  · rcases Bool.eq_false_or_eq_true (inP a1 1 9007199254740991) with c1 | c1
    · by_cases k1 : a2 = 1
      · subst k1
        by_cases v0 : a3 = 0
        · subst v0
          by_cases e0 : L = 0
          · subst e0
            have HS := Lib.hid (show ok = true by rw [HS0.out]; simp [c0, c1])
            clear HS0
            go_enter Tryd.func26, Tryd.ntmps26
            go_wp2_with (first
              | (with_reducible refine wpList_box_to _ _ rfl 31 (.tmp 0) rfl _ rfl HW.out.1 ?_)
              | (go_at_call 47; refine (isClient_any _ _).mono ?_; rintro e w' ⟨rfl, rfl⟩)
              | (go_at_call 48; refine (isPositive_any _ _).mono ?_; rintro e w' ⟨rfl, rfl⟩)
              | (go_at_call 49; refine (told_any _ _).mono ?_; rintro e w' ⟨rfl, rfl⟩)
              | (go_at_call 50; refine (sized_any _ _ HZ.out).mono ?_; rintro e w' ⟨rfl, rfl⟩))
            go_ret
            exact ⟨by rw [HS.out]; first | rfl | simp_all, HW.out.2⟩
          · have e1 : ((L : Int) == 0) = false := by simp [e0]
            have e2 : (L == 0) = false := by simp [e0]
            have HS := Lib.hid (show ok = false by rw [HS0.out]; simp [c0, c1, e0])
            clear HS0
            go_enter Tryd.func26, Tryd.ntmps26
            go_wp2_with (first
              | (with_reducible refine wpList_box_to _ _ rfl 31 (.tmp 0) rfl _ rfl HW.out.1 ?_)
              | (go_at_call 47; refine (isClient_any _ _).mono ?_; rintro e w' ⟨rfl, rfl⟩)
              | (go_at_call 48; refine (isPositive_any _ _).mono ?_; rintro e w' ⟨rfl, rfl⟩)
              | (go_at_call 49; refine (told_any _ _).mono ?_; rintro e w' ⟨rfl, rfl⟩)
              | (go_at_call 50; refine (sized_any _ _ HZ.out).mono ?_; rintro e w' ⟨rfl, rfl⟩))
            go_ret
            exact ⟨by rw [HS.out]; first | rfl | simp_all, HW.out.2⟩
        · have v1 : (a3 == 0) = false := by simp [v0]
          have HS := Lib.hid (show ok = false by rw [HS0.out]; simp [c0, c1, v0])
          clear HS0
          go_enter Tryd.func26, Tryd.ntmps26
          go_wp2_with (first
            | (with_reducible refine wpList_box_to _ _ rfl 31 (.tmp 0) rfl _ rfl HW.out.1 ?_)
            | (go_at_call 47; refine (isClient_any _ _).mono ?_; rintro e w' ⟨rfl, rfl⟩)
            | (go_at_call 48; refine (isPositive_any _ _).mono ?_; rintro e w' ⟨rfl, rfl⟩)
            | (go_at_call 49; refine (told_any _ _).mono ?_; rintro e w' ⟨rfl, rfl⟩)
            | (go_at_call 50; refine (sized_any _ _ HZ.out).mono ?_; rintro e w' ⟨rfl, rfl⟩))
          go_ret
          exact ⟨by rw [HS.out]; first | rfl | simp_all, HW.out.2⟩
      · have k1b : (a2 == 1) = false := by simp [k1]
        by_cases k3 : a2 = 3
        · subst k3
          clear k1
          by_cases v0 : a3 = 0
          · subst v0
            by_cases e0 : L = 0
            · subst e0
              have HS := Lib.hid (show ok = true by rw [HS0.out]; simp [c0, c1])
              clear HS0
              go_enter Tryd.func26, Tryd.ntmps26
              go_wp2_with (first
                | (with_reducible refine wpList_box_to _ _ rfl 31 (.tmp 0) rfl _ rfl HW.out.1 ?_)
                | (go_at_call 47; refine (isClient_any _ _).mono ?_; rintro e w' ⟨rfl, rfl⟩)
                | (go_at_call 48; refine (isPositive_any _ _).mono ?_; rintro e w' ⟨rfl, rfl⟩)
                | (go_at_call 49; refine (told_any _ _).mono ?_; rintro e w' ⟨rfl, rfl⟩)
                | (go_at_call 50; refine (sized_any _ _ HZ.out).mono ?_; rintro e w' ⟨rfl, rfl⟩))
              go_ret
              exact ⟨by rw [HS.out]; first | rfl | simp_all, HW.out.2⟩
            · have e1 : ((L : Int) == 0) = false := by simp [e0]
              have e2 : (L == 0) = false := by simp [e0]
              have HS := Lib.hid (show ok = false by rw [HS0.out]; simp [c0, c1, e0])
              clear HS0
              go_enter Tryd.func26, Tryd.ntmps26
              go_wp2_with (first
                | (with_reducible refine wpList_box_to _ _ rfl 31 (.tmp 0) rfl _ rfl HW.out.1 ?_)
                | (go_at_call 47; refine (isClient_any _ _).mono ?_; rintro e w' ⟨rfl, rfl⟩)
                | (go_at_call 48; refine (isPositive_any _ _).mono ?_; rintro e w' ⟨rfl, rfl⟩)
                | (go_at_call 49; refine (told_any _ _).mono ?_; rintro e w' ⟨rfl, rfl⟩)
                | (go_at_call 50; refine (sized_any _ _ HZ.out).mono ?_; rintro e w' ⟨rfl, rfl⟩))
              go_ret
              exact ⟨by rw [HS.out]; first | rfl | simp_all, HW.out.2⟩
          · have v1 : (a3 == 0) = false := by simp [v0]
            have HS := Lib.hid (show ok = false by rw [HS0.out]; simp [c0, c1, v0])
            clear HS0
            go_enter Tryd.func26, Tryd.ntmps26
            go_wp2_with (first
              | (with_reducible refine wpList_box_to _ _ rfl 31 (.tmp 0) rfl _ rfl HW.out.1 ?_)
              | (go_at_call 47; refine (isClient_any _ _).mono ?_; rintro e w' ⟨rfl, rfl⟩)
              | (go_at_call 48; refine (isPositive_any _ _).mono ?_; rintro e w' ⟨rfl, rfl⟩)
              | (go_at_call 49; refine (told_any _ _).mono ?_; rintro e w' ⟨rfl, rfl⟩)
              | (go_at_call 50; refine (sized_any _ _ HZ.out).mono ?_; rintro e w' ⟨rfl, rfl⟩))
            go_ret
            exact ⟨by rw [HS.out]; first | rfl | simp_all, HW.out.2⟩
        · have k3b : (a2 == 3) = false := by simp [k3]
          by_cases k2 : a2 = 2
          · subst k2
            rcases Bool.eq_false_or_eq_true (inP a3 1 9007199254740991) with v1 | v1
            · rcases Bool.eq_false_or_eq_true (sizedP (L : Int)) with e1 | e1
              · have HS := Lib.hid (show ok = true by rw [HS0.out]; simp [c0, c1, v1, e1])
                clear HS0
                go_enter Tryd.func26, Tryd.ntmps26
                go_wp2_with (first
                  | (with_reducible refine wpList_box_to _ _ rfl 31 (.tmp 0) rfl _ rfl HW.out.1 ?_)
                  | (go_at_call 47; refine (isClient_any _ _).mono ?_; rintro e w' ⟨rfl, rfl⟩)
                  | (go_at_call 48; refine (isPositive_any _ _).mono ?_; rintro e w' ⟨rfl, rfl⟩)
                  | (go_at_call 49; refine (told_any _ _).mono ?_; rintro e w' ⟨rfl, rfl⟩)
                  | (go_at_call 50; refine (sized_any _ _ HZ.out).mono ?_; rintro e w' ⟨rfl, rfl⟩))
                go_ret
                exact ⟨by rw [HS.out]; first | rfl | simp_all, HW.out.2⟩
              · have HS := Lib.hid (show ok = false by rw [HS0.out]; simp [c0, c1, v1, e1])
                clear HS0
                go_enter Tryd.func26, Tryd.ntmps26
                go_wp2_with (first
                  | (with_reducible refine wpList_box_to _ _ rfl 31 (.tmp 0) rfl _ rfl HW.out.1 ?_)
                  | (go_at_call 47; refine (isClient_any _ _).mono ?_; rintro e w' ⟨rfl, rfl⟩)
                  | (go_at_call 48; refine (isPositive_any _ _).mono ?_; rintro e w' ⟨rfl, rfl⟩)
                  | (go_at_call 49; refine (told_any _ _).mono ?_; rintro e w' ⟨rfl, rfl⟩)
                  | (go_at_call 50; refine (sized_any _ _ HZ.out).mono ?_; rintro e w' ⟨rfl, rfl⟩))
                go_ret
                exact ⟨by rw [HS.out]; first | rfl | simp_all, HW.out.2⟩
            · have HS := Lib.hid (show ok = false by rw [HS0.out]; simp [c0, c1, v1])
              clear HS0
              go_enter Tryd.func26, Tryd.ntmps26
              go_wp2_with (first
                | (with_reducible refine wpList_box_to _ _ rfl 31 (.tmp 0) rfl _ rfl HW.out.1 ?_)
                | (go_at_call 47; refine (isClient_any _ _).mono ?_; rintro e w' ⟨rfl, rfl⟩)
                | (go_at_call 48; refine (isPositive_any _ _).mono ?_; rintro e w' ⟨rfl, rfl⟩)
                | (go_at_call 49; refine (told_any _ _).mono ?_; rintro e w' ⟨rfl, rfl⟩)
                | (go_at_call 50; refine (sized_any _ _ HZ.out).mono ?_; rintro e w' ⟨rfl, rfl⟩))
              go_ret
              exact ⟨by rw [HS.out]; first | rfl | simp_all, HW.out.2⟩
          · have k2b : (a2 == 2) = false := by simp [k2]
            by_cases k4 : a2 = 4
            · subst k4
              by_cases v1 : 1 ≤ a3
              · by_cases v2 : a3 ≤ 255
                · have i1 := inP_yes (n := a3) (lo := 1) (hi := 255) ⟨v1, v2⟩
                  have d1 := decide_eq_true v1
                  have d2 := decide_eq_true v2
                  by_cases nz : nr = nameZ
                  · have dn : decide (nr = nameZ) = true := by simp [nz]
                    rw [dn] at HQ
                    by_cases e0 : L = 0
                    · subst e0
                      have HS := Lib.hid (show ok = true by rw [HS0.out]; simp [c0, c1, i1, nz])
                      clear HS0
                      go_enter Tryd.func26, Tryd.ntmps26
                      go_wp2_with (first
                        | (with_reducible refine wpList_box_to _ _ rfl 31 (.tmp 0) rfl _ rfl HW.out.1 ?_)
                        | (go_at_call 47; refine (isClient_any _ _).mono ?_; rintro e w' ⟨rfl, rfl⟩)
                        | (go_at_call 48; refine (isPositive_any _ _).mono ?_; rintro e w' ⟨rfl, rfl⟩)
                        | (go_at_call 49; refine (told_any _ _).mono ?_; rintro e w' ⟨rfl, rfl⟩)
                        | (go_at_call 50; refine (sized_any _ _ HZ.out).mono ?_; rintro e w' ⟨rfl, rfl⟩)
                        | (refine wpList_load_mid_g 28 (.tmp 51) rfl w.heap.size 4 rfl (nameL nr) _ HX.out Tryd.underlying28 rfl HI.out ?_ ?_; · rfl)
                        | (refine wpList_build_v_g _ 28 rfl _ (build_nameZ _) ?_ ?_; · rfl)
                        | (refine wpList_bin_agg_g _ .eql 28 28 (.tmp 52) (.tmp 53) rfl guardName (nameL nr).toArray (nameL nameZ).toArray rfl rfl _ HQ.out ?_ ?_; · rfl))
                      go_ret
                      exact ⟨by rw [HS.out]; first | rfl | simp_all, HW.out.2⟩
                    · have e1 : ((L : Int) == 0) = false := by simp [e0]
                      have HS := Lib.hid (show ok = false by rw [HS0.out]; simp [c0, c1, i1, nz, e0])
                      clear HS0
                      go_enter Tryd.func26, Tryd.ntmps26
                      go_wp2_with (first
                        | (with_reducible refine wpList_box_to _ _ rfl 31 (.tmp 0) rfl _ rfl HW.out.1 ?_)
                        | (go_at_call 47; refine (isClient_any _ _).mono ?_; rintro e w' ⟨rfl, rfl⟩)
                        | (go_at_call 48; refine (isPositive_any _ _).mono ?_; rintro e w' ⟨rfl, rfl⟩)
                        | (go_at_call 49; refine (told_any _ _).mono ?_; rintro e w' ⟨rfl, rfl⟩)
                        | (go_at_call 50; refine (sized_any _ _ HZ.out).mono ?_; rintro e w' ⟨rfl, rfl⟩)
                        | (refine wpList_load_mid_g 28 (.tmp 51) rfl w.heap.size 4 rfl (nameL nr) _ HX.out Tryd.underlying28 rfl HI.out ?_ ?_; · rfl)
                        | (refine wpList_build_v_g _ 28 rfl _ (build_nameZ _) ?_ ?_; · rfl)
                        | (refine wpList_bin_agg_g _ .eql 28 28 (.tmp 52) (.tmp 53) rfl guardName (nameL nr).toArray (nameL nameZ).toArray rfl rfl _ HQ.out ?_ ?_; · rfl))
                      go_ret
                      exact ⟨by rw [HS.out]; first | rfl | simp_all, HW.out.2⟩
                  · have dn : decide (nr = nameZ) = false := by simp [nz]
                    rw [dn] at HQ
                    have HS := Lib.hid (show ok = false by rw [HS0.out]; simp [c0, c1, i1, nz])
                    clear HS0
                    go_enter Tryd.func26, Tryd.ntmps26
                    go_wp2_with (first
                      | (with_reducible refine wpList_box_to _ _ rfl 31 (.tmp 0) rfl _ rfl HW.out.1 ?_)
                      | (go_at_call 47; refine (isClient_any _ _).mono ?_; rintro e w' ⟨rfl, rfl⟩)
                      | (go_at_call 48; refine (isPositive_any _ _).mono ?_; rintro e w' ⟨rfl, rfl⟩)
                      | (go_at_call 49; refine (told_any _ _).mono ?_; rintro e w' ⟨rfl, rfl⟩)
                      | (go_at_call 50; refine (sized_any _ _ HZ.out).mono ?_; rintro e w' ⟨rfl, rfl⟩)
                      | (refine wpList_load_mid_g 28 (.tmp 51) rfl w.heap.size 4 rfl (nameL nr) _ HX.out Tryd.underlying28 rfl HI.out ?_ ?_; · rfl)
                      | (refine wpList_build_v_g _ 28 rfl _ (build_nameZ _) ?_ ?_; · rfl)
                      | (refine wpList_bin_agg_g _ .eql 28 28 (.tmp 52) (.tmp 53) rfl guardName (nameL nr).toArray (nameL nameZ).toArray rfl rfl _ HQ.out ?_ ?_; · rfl))
                    go_ret
                    exact ⟨by rw [HS.out]; first | rfl | simp_all, HW.out.2⟩
                · have i1 := inP_no (n := a3) (lo := 1) (hi := 255) (fun h => v2 h.2)
                  have d1 := decide_eq_true v1
                  have d2 := decide_eq_false v2
                  have HS := Lib.hid (show ok = false by rw [HS0.out]; simp [c0, c1, i1])
                  clear HS0
                  go_enter Tryd.func26, Tryd.ntmps26
                  go_wp2_with (first
                    | (with_reducible refine wpList_box_to _ _ rfl 31 (.tmp 0) rfl _ rfl HW.out.1 ?_)
                    | (go_at_call 47; refine (isClient_any _ _).mono ?_; rintro e w' ⟨rfl, rfl⟩)
                    | (go_at_call 48; refine (isPositive_any _ _).mono ?_; rintro e w' ⟨rfl, rfl⟩)
                    | (go_at_call 49; refine (told_any _ _).mono ?_; rintro e w' ⟨rfl, rfl⟩)
                    | (go_at_call 50; refine (sized_any _ _ HZ.out).mono ?_; rintro e w' ⟨rfl, rfl⟩))
                  go_ret
                  exact ⟨by rw [HS.out]; first | rfl | simp_all, HW.out.2⟩
              · have i1 := inP_no (n := a3) (lo := 1) (hi := 255) (fun h => v1 h.1)
                have d1 := decide_eq_false v1
                have HS := Lib.hid (show ok = false by rw [HS0.out]; simp [c0, c1, i1])
                clear HS0
                go_enter Tryd.func26, Tryd.ntmps26
                go_wp2_with (first
                  | (with_reducible refine wpList_box_to _ _ rfl 31 (.tmp 0) rfl _ rfl HW.out.1 ?_)
                  | (go_at_call 47; refine (isClient_any _ _).mono ?_; rintro e w' ⟨rfl, rfl⟩)
                  | (go_at_call 48; refine (isPositive_any _ _).mono ?_; rintro e w' ⟨rfl, rfl⟩)
                  | (go_at_call 49; refine (told_any _ _).mono ?_; rintro e w' ⟨rfl, rfl⟩)
                  | (go_at_call 50; refine (sized_any _ _ HZ.out).mono ?_; rintro e w' ⟨rfl, rfl⟩))
                go_ret
                exact ⟨by rw [HS.out]; first | rfl | simp_all, HW.out.2⟩
            · have k4b : (a2 == 4) = false := by simp [k4]
              have HS := Lib.hid (show ok = false by rw [HS0.out]; simp [c0, c1, k1, k2, k3, k4])
              clear HS0
              go_enter Tryd.func26, Tryd.ntmps26
              go_wp2_with (first
                | (with_reducible refine wpList_box_to _ _ rfl 31 (.tmp 0) rfl _ rfl HW.out.1 ?_)
                | (go_at_call 47; refine (isClient_any _ _).mono ?_; rintro e w' ⟨rfl, rfl⟩)
                | (go_at_call 48; refine (isPositive_any _ _).mono ?_; rintro e w' ⟨rfl, rfl⟩)
                | (go_at_call 49; refine (told_any _ _).mono ?_; rintro e w' ⟨rfl, rfl⟩)
                | (go_at_call 50; refine (sized_any _ _ HZ.out).mono ?_; rintro e w' ⟨rfl, rfl⟩))
              go_ret
              exact ⟨by rw [HS.out]; first | rfl | simp_all, HW.out.2⟩
    · have HS := Lib.hid (show ok = false by rw [HS0.out]; simp [c0, c1])
      clear HS0
      go_enter Tryd.func26, Tryd.ntmps26
      go_wp2_with (first
        | (with_reducible refine wpList_box_to _ _ rfl 31 (.tmp 0) rfl _ rfl HW.out.1 ?_)
        | (go_at_call 47; refine (isClient_any _ _).mono ?_; rintro e w' ⟨rfl, rfl⟩)
        | (go_at_call 48; refine (isPositive_any _ _).mono ?_; rintro e w' ⟨rfl, rfl⟩)
        | (go_at_call 49; refine (told_any _ _).mono ?_; rintro e w' ⟨rfl, rfl⟩)
        | (go_at_call 50; refine (sized_any _ _ HZ.out).mono ?_; rintro e w' ⟨rfl, rfl⟩))
      go_ret
      exact ⟨by rw [HS.out]; first | rfl | simp_all, HW.out.2⟩
  · have HS := Lib.hid (show ok = false by rw [HS0.out]; simp [c0])
    clear HS0
    go_enter Tryd.func26, Tryd.ntmps26
    go_wp2_with (first
      | (with_reducible refine wpList_box_to _ _ rfl 31 (.tmp 0) rfl _ rfl HW.out.1 ?_)
      | (go_at_call 47; refine (isClient_any _ _).mono ?_; rintro e w' ⟨rfl, rfl⟩)
      | (go_at_call 48; refine (isPositive_any _ _).mono ?_; rintro e w' ⟨rfl, rfl⟩)
      | (go_at_call 49; refine (told_any _ _).mono ?_; rintro e w' ⟨rfl, rfl⟩)
      | (go_at_call 50; refine (sized_any _ _ HZ.out).mono ?_; rintro e w' ⟨rfl, rfl⟩))
    go_ret
    exact ⟨by rw [HS.out]; first | rfl | simp_all, HW.out.2⟩
end Go.Proofs.YtmlmhnhilemjhaaDoor
