/-
  SESSKNOWN, 1: sessions that are none.
-/
import Derived.Test.YtkpmlcgbffdloaaDoorSess23
namespace Go.Proofs.YtkpmlcgbffdloaaDoor
open Go.RowKit
set_option linter.unusedVariables false
set_option maxRecDepth 100000
set_option linter.unusedSimpArgs false

def NoneAt (v : Value) (w : World) : Prop := Calls Tryd.prog 42 #[v] w fun e w' => e = .returned (.bool true) ∧ w = w'
theorem none_nil (w : World) : NoneAt (.pointer none) w := by
  unfold NoneAt
  go_enter Tryd.func42, Tryd.ntmps42
  go_wp2
  go_ret
  exact ⟨rfl, rfl⟩
theorem none_zero (w : World) (p : Nat) (hc : w.cell? ⟨p, 3, none⟩ = some (.chan none)) : NoneAt (.pointer (some ⟨p, 0, none⟩)) w := by
  unfold NoneAt
  have he := run_eql_chan w none
  go_enter Tryd.func42, Tryd.ntmps42
  go_wp2
  go_ret
  exact ⟨rfl, rfl⟩
section
variable (v : Value) (w : World) (h : ∀ w', keepBut [] w w' → NoneAt v w')
include h
theorem tickN_any : Calls Tryd.prog 24 #[v] w fun e w' => e = .returned (.slice none 0 0) ∧ w = w' := by
  have H0 := Lib.hid (show Calls Tryd.prog 42 #[v] w _ from h w (keepBut.refl _ _))
  clear h
  go_enter Tryd.func24, Tryd.ntmps24
  go_wp2_with (first
    | (go_at_call 42; (with_reducible refine H0.out.mono ?_); rintro e w' ⟨rfl, rfl⟩))
  go_ret
  exact ⟨rfl, rfl⟩
theorem waitsN_any : Calls Tryd.prog 18 #[v] w fun e w' => e = .returned (.bool false) ∧ w = w' := by
  have H0 := Lib.hid (show Calls Tryd.prog 42 #[v] w _ from h w (keepBut.refl _ _))
  clear h
  go_enter Tryd.func18, Tryd.ntmps18
  go_wp2_with (first
    | (go_at_call 42; (with_reducible refine H0.out.mono ?_); rintro e w' ⟨rfl, rfl⟩))
  go_ret
  exact ⟨rfl, rfl⟩
theorem lateN_any : Calls Tryd.prog 25 #[v] w fun e w' => e = .returned (.bool false) ∧ w = w' := by
  have H0 := Lib.hid (show Calls Tryd.prog 42 #[v] w _ from h w (keepBut.refl _ _))
  clear h
  go_enter Tryd.func25, Tryd.ntmps25
  go_wp2_with (first
    | (go_at_call 42; (with_reducible refine H0.out.mono ?_); rintro e w' ⟨rfl, rfl⟩))
  go_ret
  exact ⟨rfl, rfl⟩
theorem numN_any : Calls Tryd.prog 15 #[v] w fun e w' => e = .returned (.int .i64 0) ∧ w = w' := by
  have H0 := Lib.hid (show Calls Tryd.prog 42 #[v] w _ from h w (keepBut.refl _ _))
  clear h
  go_enter Tryd.func15, Tryd.ntmps15
  go_wp2_with (first
    | (go_at_call 42; (with_reducible refine H0.out.mono ?_); rintro e w' ⟨rfl, rfl⟩))
  go_ret
  exact ⟨rfl, rfl⟩
theorem confN_any : Calls Tryd.prog 22 #[v] w fun e w' => e = .returned (.agg (cfL cfZero nilV).toArray) ∧ keepBut [] w w' := by
  obtain ⟨Z, hZ⟩ : ∃ Z, cfL cfZero nilV = Z := ⟨_, rfl⟩
  have hzv := zv_cf
  have HB0 : Tryd.prog.built 41 [] = some (cfL cfZero nilV).toArray := by kernel_rfl
  have hzl : (cfL cfZero nilV).length = 3 := rfl
  have hzo : ∀ u ∈ cfL cfZero nilV, u.oneCell' = true := cfL_one _ rfl
  have hze : Value.agg #[.int .i64 0, .int .i64 0, .slice none 0 0] = Value.agg (cfL cfZero nilV).toArray := rfl
  rw [hZ] at hzv HB0 hzl hzo hze ⊢
  have HZE := Lib.hid hze
  have r1 := rowAt.new w 41 Z.toArray
  have k1 := (keepBut.refl [] w).alloc (.cells Z.toArray 41)
  obtain ⟨w1, hw1⟩ : ∃ w1, w.alloc (.cells Z.toArray 41) = w1 := ⟨_, rfl⟩
  rw [hw1] at r1 k1
  obtain ⟨d, hd⟩ : ∃ d, w.heap.size = d := ⟨_, rfl⟩
  rw [hd] at r1
  have HW := Lib.hid (And.intro hw1 (And.intro hzv (And.intro hzl hzo)))
  have H0 := Lib.hid (show Calls Tryd.prog 42 #[v] w1 _ from h w1 k1)
  have HT := Lib.hid (r1.there (o := 0) (n := 3) (by rw [List.size_toArray, hzl]; decide))
  have H1 := Lib.hid (And.intro r1 (And.intro k1 hd))
  have HB := Lib.hid (run_build (P := Tryd.prog) w1 41 #[] Z.toArray HB0)
  clear h r1 k1 hw1 hzv hzl hzo HB0 hZ hze
  go_enter Tryd.func22, Tryd.ntmps22
  go_wp2_with (first
    | (with_reducible refine wpList_alloc_to _ _ rfl 41 rfl _ HW.out.2.1 HW.out.1 ?_; try simp only [hd])
    | (go_at_call 42; (with_reducible refine H0.out.mono ?_); rintro e w' ⟨rfl, rfl⟩)
    | (refine wpList_store_mid rfl 41 (.tmp 2) (.tmp 6) rfl d 0 Z.toArray rfl HZE.out (by rw [List.size_toArray, HW.out.2.2.1]; exact HT.out) (by rw [List.size_toArray, HW.out.2.2.1]; exact info_cf) (by simpa using HW.out.2.2.2) ?_))
  have r9 := set0 H1.out.1 (rfl : Z.length = Z.length)
  refine bodyPost_ret (results_cell_row rfl _ _ d 41 _ (0, 0) _ rfl r9 Tryd.underlying41 rfl (by rw [List.size_toArray, HW.out.2.2.1]; exact info_cf)) rfl ?_
  exact ⟨by rfl, H1.out.2.1.setL (.inr (Nat.le_of_eq H1.out.2.2))⟩
theorem askN_any (r : RQ) (rv : Value) : Calls Tryd.prog 28 #[v, .agg (rqL r rv).toArray] w fun e w' => e = .returned (.tuple #[.int .i64 0, .int .i64 1]) ∧ keepBut [] w w' := by
  have k1 := (keepBut.refl [] w).alloc (.cells (rqL r rv).toArray 37)
  obtain ⟨X, hX⟩ : ∃ X, rqL r rv = X := ⟨_, rfl⟩
  rw [hX] at k1 ⊢
  obtain ⟨w1, hw1⟩ : ∃ w1, w.alloc (.cells X.toArray 37) = w1 := ⟨_, rfl⟩
  rw [hw1] at k1
  have HW := Lib.hid hw1
  have H0 := Lib.hid (show Calls Tryd.prog 42 #[v] w1 _ from h w1 k1)
  have HK := Lib.hid k1
  clear h k1 hw1 hX
  go_enter Tryd.func28, Tryd.ntmps28
  go_wp2_with (first
    | (with_reducible refine wpList_box_to _ _ rfl 37 (.tmp 1) rfl _ rfl HW.out ?_)
    | (go_at_call 42; (with_reducible refine H0.out.mono ?_); rintro e w' ⟨rfl, rfl⟩))
  go_ret2
  exact ⟨rfl, HK.out⟩
theorem asksN_any (r : RQ) (rv : Value) (hr : r.name.length = 32) : Calls Tryd.prog 19 #[v, .agg (rqL r rv).toArray, .int .i64 0, .int .i64 1] w fun e w' => e = .returned (.bool true) ∧ keepBut [] w w' := by
  have k1 := (keepBut.refl [] w).alloc (.cells (rqL r rv).toArray 37)
  have r1 := rowAt.new w 37 (rqL r rv).toArray
  obtain ⟨w1, hw1⟩ : ∃ w1, w.alloc (.cells (rqL r rv).toArray 37) = w1 := ⟨_, rfl⟩
  rw [hw1] at k1 r1
  have HA := Lib.hid (askN_any v w1 (fun w' hk => h w' (k1.then hk (by simp))) r rv)
  have hXl := rqL_len (ev := rv) hr
  obtain ⟨X, hX⟩ : ∃ X, rqL r rv = X := ⟨_, rfl⟩
  rw [hX] at hw1 r1 HA hXl ⊢
  have HR := Lib.hid (And.intro r1.rangeAll (And.intro hXl k1))
  have HW := Lib.hid hw1
  clear hw1 r1 k1 h hr hX hXl
  go_enter Tryd.func19, Tryd.ntmps19
  go_wp2_with (first
    | (with_reducible refine wpList_box_to _ _ rfl 37 (.tmp 1) rfl _ rfl HW.out ?_)
    | (refine wpList_load_mid rfl 37 (.tmp 5) rfl w.heap.size 0 rfl X _ HR.out.1 Tryd.underlying37 rfl (by rw [HR.out.2.1]; exact info_rqS) ?_)
    | (go_at_call 28; (with_reducible refine HA.out.mono ?_); rintro x w2 ⟨rfl, k2⟩; have H2 := Lib.hid k2; clear k2))
  go_ret
  exact ⟨rfl, HR.out.2.2.then H2.out (by simp)⟩
set_option maxHeartbeats 4000000 in
theorem takeN_any (x : PK) (xe xa xc xv xb : Value) (hX : (pkL x xe xa xc xv xb).length = 87) : Calls Tryd.prog 17 #[v, .agg (pkL x xe xa xc xv xb).toArray] w fun e w' => e = .returned (.tuple #[.agg (anL anZero nilV).toArray, .bool false]) ∧ keepBut [] w w' := by
  obtain ⟨X, hX⟩ : ∃ X, pkL x xe xa xc xv xb = X := ⟨_, rfl⟩
  rw [hX]
  obtain ⟨Z, hZ⟩ : ∃ Z, anL anZero nilV = Z := ⟨_, rfl⟩
  have hzv := zv_an
  have hzl := anZ_len
  have hz1 := anZ_one
  rw [hZ] at hzv hzl hz1 ⊢
  have k1 := (keepBut.refl [] w).alloc (.cells X.toArray 44)
  obtain ⟨w1, hw1⟩ : ∃ w1, w.alloc (.cells X.toArray 44) = w1 := ⟨_, rfl⟩
  rw [hw1] at k1
  have k2 := (keepBut.refl [] w1).alloc (.cells Z.toArray 39)
  have r2 := rowAt.new w1 39 Z.toArray
  obtain ⟨w2, hw2⟩ : ∃ w2, w1.alloc (.cells Z.toArray 39) = w2 := ⟨_, rfl⟩
  rw [hw2] at k2 r2
  have k12 := k1.then k2 (by simp)
  obtain ⟨d, hd⟩ : ∃ d, w1.heap.size = d := ⟨_, rfl⟩
  rw [hd] at r2
  have hwd : w.heap.size ≤ d := by rw [← hd]; exact k1.size
  have HW := Lib.hid (And.intro hw1 (And.intro hw2 hzv))
  have HZ := Lib.hid (And.intro hZ (And.intro hzl hz1))
  have HZE := Lib.hid (congrArg Value.agg (anZero_cells.symm.trans (congrArg List.toArray hZ)))
  have H2 := Lib.hid (And.intro k12 (And.intro r2 hwd))
  have HN := Lib.hid (show ∀ n, Calls Tryd.prog 42 #[v] (w2.drewN n) _ from fun n => h (w2.drewN n) (k12.drewN n))
  clear h k1 k2 r2 k12 hw1 hw2 hzv hzl hz1 hX hZ hwd
  go_enter Tryd.func17, Tryd.ntmps17
  go_upto_region 1 with (first
    | (with_reducible refine wpList_box_to _ _ rfl 44 (.tmp 1) rfl _ rfl HW.out.1 ?_)
    | (with_reducible refine wpList_alloc_to _ _ rfl 39 rfl _ HW.out.2.2 HW.out.2.1 ?_))
  try simp only [hd]
  go_quiet ((go_at_call 42; exact Calls.quiet_of_same ((HN.out _).mono (fun _ _ ⟨a, b⟩ => ⟨a, b.symm⟩))))
  have k3 : keepBut [] w2 (w2.drewN nq) := (keepBut.refl [] w2).drewN nq
  generalize w2.drewN nq = w3 at k3 ⊢
  have r3 := k3.row H2.out.2.1 (by simp)
  have HT := Lib.hid (r3.there (o := 0) (n := 38) (by rw [List.size_toArray, HZ.out.2.1]; decide))
  have H3 := Lib.hid (And.intro r3 (H2.out.1.then k3 (by simp)))
  clear r3 k3
  go_wp2_with (first
    | (refine wpList_store_mid rfl 39 (.tmp 4) (.tmp 17) rfl d 0 Z.toArray rfl HZE.out (by rw [List.size_toArray, HZ.out.2.1]; exact HT.out) (by rw [List.size_toArray, HZ.out.2.1]; exact info_anS) (by simpa using HZ.out.2.2) ?_))
  have r9 := set0 H3.out.1 (rfl : Z.length = Z.length)
  refine bodyPost_ret (results_row_tmp rfl _ _ d 39 _ (0, 0) _ rfl r9 Tryd.underlying39 rfl (by rw [List.size_toArray, HZ.out.2.1]; exact info_anS)) rfl ?_
  exact ⟨by rfl, H3.out.2.setL (.inr H2.out.2.2)⟩
end
end Go.Proofs.YtkpmlcgbffdloaaDoor
