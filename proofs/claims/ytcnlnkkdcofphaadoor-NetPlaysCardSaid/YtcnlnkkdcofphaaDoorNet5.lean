/-
  NET, 5: a place where there is no packet.
-/
import Derived.Test.YtcnlnkkdcofphaaDoorNet4
namespace Go.Proofs.YtcnlnkkdcofphaaDoor
open Go.RowKit
set_option linter.unusedVariables false
set_option maxRecDepth 100000

theorem twiceN_no (p : Nat) (v : Value) (T : List (PK × List Value)) (F : List Nat) (c : Nat) (i : Int) (w : World) (h : isN w p v T F c) (hi : ¬ (0 ≤ i ∧ i < T.length)) :
    Calls Tryd.prog 29 #[.pointer (some ⟨p, 0, none⟩), .int .i64 i] w fun e w' => e = .returned (.int .i64 9) ∧ w = w' := by
  go_enter Tryd.func29, Tryd.ntmps29
  go_wp2_with (go_at_call 37; refine (findN_no _ _ _ _ _ _ _ h hi).mono ?_; rintro e w' ⟨rfl, rfl⟩)
  go_ret
  exact ⟨rfl, rfl⟩
def nonePost (w : World) (e : Ending) (w' : World) : Prop := ∃ X, e = .returned (.tuple #[.agg (X : List Value).toArray, .int .i64 9]) ∧ itemV w' [] (pkZero, X) ∧ keepBut [] w w'
set_option maxHeartbeats 4000000 in
theorem atN_no (p : Nat) (v : Value) (T : List (PK × List Value)) (F : List Nat) (c : Nat) (i : Int) (w : World) (h : isN w p v T F c) (hi : ¬ (0 ≤ i ∧ i < T.length)) :
    Calls Tryd.prog 17 #[.pointer (some ⟨p, 0, none⟩), .int .i64 i] w (nonePost w) := by
  obtain ⟨Z, hZl, hZ, hZb, hZi⟩ := zeroP
  have HZ := Lib.hid (And.intro hZ hZl)
  have HZB := Lib.hid hZb
  have HZI := Lib.hid hZi
  have k1 := (keepBut.refl [] w).alloc (.cells Z.toArray 40)
  have r1 := rowAt.new w 40 Z.toArray
  obtain ⟨w1, hw1⟩ : ∃ w1, w.alloc (.cells Z.toArray 40) = w1 := ⟨_, rfl⟩
  rw [hw1] at k1 r1
  have HN := Lib.hid (h.over k1)
  have HW := Lib.hid hw1
  have R1 := Lib.hid r1
  have K1 := Lib.hid k1
  have RS := Lib.hid (r1.there (o := 0) (n := Z.toArray.size) (by omega))
  have HH := Lib.hid hi
  clear h hi hZ hZl hZb hZi hw1 k1 r1
  go_enter Tryd.func17, Tryd.ntmps17
  go_wp2_with (first
    | (with_reducible refine wpList_alloc_to _ _ rfl 40 rfl _ HZ.out.1 HW.out ?_)
    | (go_at_call 37; refine (findN_no _ _ _ _ _ _ _ HN.out HH.out).mono ?_; rintro e w' ⟨rfl, rfl⟩)
    | (with_reducible refine wpList_build_v _ rfl 40 rfl _ (HZB.out _) ?_)
    | (refine wpList_store_mid rfl 40 (.tmp 4) (.tmp 12) rfl w.heap.size 0 Z.toArray rfl rfl RS.out (by rw [List.size_toArray, HZ.out.2]; exact info_pk) (all_oneCell_toArray (HZI.out w).one) ?_))
  have r3 := R1.out.setL (vs := Z) (o := 0)
  rw [putL_all (by rw [List.size_toArray])] at r3
  have k3 := (keepBut.refl [w.heap.size] w1).setL (vs := Z) (g := w.heap.size) (o := 0) (.inl (by simp))
  refine bodyPost_ret (results_row_tmp rfl _ _ w.heap.size 40 _ (0, 0) _ rfl r3 Tryd.underlying40 rfl (by rw [List.size_toArray, HZ.out.2]; exact info_pk)) rfl ?_
  exact ⟨Z, rfl, HZI.out _, K1.out.then k3 (by simp)⟩
set_option maxHeartbeats 4000000 in
theorem takeN_no (p : Nat) (v : Value) (T : List (PK × List Value)) (F : List Nat) (c : Nat) (i : Int) (w : World) (h : isN w p v T F c) (hi : ¬ (0 ≤ i ∧ i < T.length)) :
    Calls Tryd.prog 27 #[.pointer (some ⟨p, 0, none⟩), .int .i64 i] w (nonePost w) := by
  obtain ⟨Z, hZl, hZ, hZb, hZi⟩ := zeroP
  have HZ := Lib.hid (And.intro hZ hZl)
  have HZB := Lib.hid hZb
  have HZI := Lib.hid hZi
  have k1 := (keepBut.refl [] w).alloc (.cells Z.toArray 40)
  have r1 := rowAt.new w 40 Z.toArray
  obtain ⟨w1, hw1⟩ : ∃ w1, w.alloc (.cells Z.toArray 40) = w1 := ⟨_, rfl⟩
  rw [hw1] at k1 r1
  have HN := Lib.hid (h.over k1)
  have HW := Lib.hid hw1
  have R1 := Lib.hid r1
  have K1 := Lib.hid k1
  have RS := Lib.hid (r1.there (o := 0) (n := Z.toArray.size) (by omega))
  have HH := Lib.hid hi
  clear h hi hZ hZl hZb hZi hw1 k1 r1
  go_enter Tryd.func27, Tryd.ntmps27
  go_wp2_with (first
    | (with_reducible refine wpList_alloc_to _ _ rfl 40 rfl _ HZ.out.1 HW.out ?_)
    | (go_at_call 37; refine (findN_no _ _ _ _ _ _ _ HN.out HH.out).mono ?_; rintro e w' ⟨rfl, rfl⟩)
    | (with_reducible refine wpList_build_v _ rfl 40 rfl _ (HZB.out _) ?_)
    | (refine wpList_store_mid rfl 40 (.tmp 4) (.tmp 13) rfl w.heap.size 0 Z.toArray rfl rfl RS.out (by rw [List.size_toArray, HZ.out.2]; exact info_pk) (all_oneCell_toArray (HZI.out w).one) ?_))
  have r3 := R1.out.setL (vs := Z) (o := 0)
  rw [putL_all (by rw [List.size_toArray])] at r3
  have k3 := (keepBut.refl [w.heap.size] w1).setL (vs := Z) (g := w.heap.size) (o := 0) (.inl (by simp))
  refine bodyPost_ret (results_row_tmp rfl _ _ w.heap.size 40 _ (0, 0) _ rfl r3 Tryd.underlying40 rfl (by rw [List.size_toArray, HZ.out.2]; exact info_pk)) rfl ?_
  exact ⟨Z, rfl, HZI.out _, K1.out.then k3 (by simp)⟩
set_option maxHeartbeats 4000000 in
theorem dropN_no (p : Nat) (v : Value) (T : List (PK × List Value)) (F : List Nat) (c : Nat) (i : Int) (w : World) (h : isN w p v T F c) (hi : ¬ (0 ≤ i ∧ i < T.length)) :
    Calls Tryd.prog 28 #[.pointer (some ⟨p, 0, none⟩), .int .i64 i] w fun e w' => e = .returned (.int .i64 9) ∧ keepBut [] w w' := by
  obtain ⟨Z, hZl, hZ, hZb, hZi⟩ := zeroP
  have HZ := Lib.hid (And.intro hZ hZl)
  clear hZl hZ hZb hZi
  go_enter Tryd.func28, Tryd.ntmps28
  go_wp2_with (first
    | (go_at_call 27; refine (takeN_no _ _ _ _ _ _ _ h hi).mono ?_; rintro e w2 ⟨X2, rfl, i2, k2⟩; have Q2 := Lib.hid (And.intro i2 k2); clear i2 k2)
    | (with_reducible refine wpList_alloc_to _ _ rfl 40 rfl _ HZ.out.1 rfl ?_)
    | (refine wpList_store_mid rfl 40 (.tmp 5) (.tmp 11) rfl w2.heap.size 0 X2.toArray rfl rfl (there_newP (by rw [Q2.out.1.len]; exact HZ.out.2.symm)) (by rw [List.size_toArray, Q2.out.1.len]; exact info_pk) (all_oneCell_toArray Q2.out.1.one) ?_))
  go_ret
  exact ⟨rfl, Q2.out.2.then (storedP (by rw [Q2.out.1.len]; exact HZ.out.2.symm)).2 (by simp)⟩
end Go.Proofs.YtcnlnkkdcofphaaDoor
