/-
  TABLE, 24: the act next.
-/
import Derived.Test.YtmlmhnhilemjhaaDoorTB23
namespace Go.Proofs.YtmlmhnhilemjhaaDoor
open Go.RowKit
set_option linter.unusedVariables false
set_option maxRecDepth 100000
set_option linter.unusedSimpArgs false

def actNext (s : TS) (r : RQ) (a : AN) : AN := match afterN s r.name with | some n => actGet s { r with name := n } { a with name := n } | none => { a with code := 1 }
theorem actGet_any (p q : Nat) (s : TS) (F : List Nat) (r : RQ) (ev : Value) (a : AN) (w : World) (h : isT w p s) (hr : rqV w F r ev) (hq : rowAt w q 40 (anL a nilV).toArray) (han : a.name.length = 32) (hae : a.env = []) :
    Calls Tryd.prog 52 #[.pointer (some ⟨p, 0, none⟩), .agg (rqL r ev).toArray, .pointer (some ⟨q, 0, none⟩)] w (actPost q (actGet s r a) w) := by
  rcases Bool.eq_false_or_eq_true (hitN s r.name) with hh | hh
  · exact actGet_yes p q s F r ev a w h hr hq han hae hh
  · exact actGet_no p q s F r ev a w h hr hq han hae hh
set_option maxHeartbeats 8000000 in
theorem actNext_no (p q : Nat) (s : TS) (F : List Nat) (r : RQ) (ev : Value) (a : AN) (w : World) (h : isT w p s) (hr : rqV w F r ev) (hq : rowAt w q 40 (anL a nilV).toArray) (hqa : q ∉ homes s.av) (hqF : q ∉ F) (han : a.name.length = 32) (hae : a.env = []) (hno : (afterN s r.name).isSome = false) :
    Calls Tryd.prog 54 #[.pointer (some ⟨p, 0, none⟩), .agg (rqL r ev).toArray, .pointer (some ⟨q, 0, none⟩)] w (actPost q (actNext s r a) w) := by
  obtain ⟨X, hX⟩ : ∃ X, rqL r ev = X := ⟨_, rfl⟩
  have hXn : ∀ j v, (nameL r.name)[j]? = some v → X.toArray[4 + j]? = some v := by rw [← hX]; exact rqL_name r ev
  rw [hX]
  obtain ⟨w1, hw1⟩ : ∃ w1, w.alloc (.cells X.toArray 31) = w1 := ⟨_, rfl⟩
  have r1 : rowAt w1 w.heap.size 31 X.toArray := hw1 ▸ rowAt.new _ _ _
  have k1 : keepBut [] w w1 := hw1 ▸ (keepBut.refl [] w).alloc _
  obtain ⟨Z, hZ⟩ : ∃ Z, nameL nameZ = Z := ⟨_, rfl⟩
  have hz := zv_nm
  rw [hZ] at hz
  have HZ := Lib.hid (And.intro hz (show Z.length = 32 by rw [← hZ, nameL_len, nameZ_len]))
  have hal := afterC_len h r.name
  obtain ⟨Y, hY⟩ : ∃ Y, nameL (afterC s r.name) = Y := ⟨_, rfl⟩
  have HY := Lib.hid (And.intro (show Y.length = 32 by rw [← hY, nameL_len, hal]) (And.intro (show ∀ u ∈ Y, u.oneCell' = true by rw [← hY]; exact nameL_one) hY))
  have HW1 := Lib.hid hw1
  have HRG : Hid (∀ W, keepBut [] w1 W → isT W p s ∧ W.rangeAt w.heap.size 4 (nameL r.name)) := Lib.hid (fun W k => ⟨(h.over k1).over k, (k.row r1 (by simp)).range hXn⟩)
  have HT := Lib.hid (h.over k1)
  have HK := Lib.hid k1
  have HA := Lib.hid hr.1
  have HQ := Lib.hid (And.intro (k1.row hq (by simp)) (And.intro han (And.intro hae hq.lt)))
  have H0 := Lib.hid (And.intro h (And.intro hr (And.intro hq (And.intro hqa (And.intro hqF (And.intro hX (And.intro r1 k1)))))))
  have HN := Lib.hid hno
  clear hw1 r1 k1 h hX hXn hr hq han hae hno hz hZ hY hal hqa hqF
  generalize hnm : r.name = nm at *
  have HNM := Lib.hid hnm
  clear hnm
  go_enter Tryd.func54, Tryd.ntmps54
  go_upto_region 1 with (with_reducible refine wpList_box_to _ _ rfl 31 (.tmp 1) rfl _ rfl HW1.out ?_)
  have KS : keepBut [] w1 w1.drew := (keepBut.refl [] w1).drew
  refine wp_region_held_drew (S := fun W => keepBut [] w1 W) (by kernel_rfl) KS (fun _ => ?_)
  refine wpAnyH_take (i := 0) (oi := ⟨_, _, _, _, _, _⟩) (v := ?_) rfl (by kernel_rfl) (by kernel_rfl) (by kernel_rfl) (fun _ _ _ h => h) (Or.inl ⟨by rfl, ?_⟩) KS ?_
  rotate_left
  · intro w' hSw; (go_simp; try with_reducible rfl)
  try simp only [Act.put, List.setIfInBounds_toArray, List.set_cons_zero, List.set_cons_succ]
  refine wpAnyH_take (i := 1) (oi := ⟨_, _, _, _, _, _⟩) (v := ?_) rfl (by kernel_rfl) (by kernel_rfl) (by kernel_rfl) (fun _ _ _ h => h) (Or.inl ⟨by rfl, ?_⟩) KS ?_
  rotate_left
  · intro w' hSw; (go_simp; try with_reducible rfl)
  try simp only [Act.put, List.setIfInBounds_toArray, List.set_cons_zero, List.set_cons_succ]
  refine wpAnyH_take (i := 2) (oi := ⟨_, _, _, _, _, _⟩) (v := ?_) rfl (by kernel_rfl) (by kernel_rfl) (by kernel_rfl) (fun _ _ _ h => h) (Or.inl ⟨by rfl, ?_⟩) KS ?_
  rotate_left
  · intro w' hSw; (go_simp; try with_reducible rfl)
  try simp only [Act.put, List.setIfInBounds_toArray, List.set_cons_zero, List.set_cons_succ]
  refine wpAnyH_take (i := 3) (oi := ⟨_, _, _, _, _, _⟩) (v := ?_) rfl (by kernel_rfl) (by kernel_rfl) (by kernel_rfl) (fun _ _ _ h => h) (Or.inl ⟨by rfl, ?_⟩) KS ?_
  rotate_left
  · intro w' hSw; (go_simp; try with_reducible rfl)
  try simp only [Act.put, List.setIfInBounds_toArray, List.set_cons_zero, List.set_cons_succ]
  refine wpAnyH_take (i := 4) (oi := ⟨_, _, _, _, _, _⟩) (v := .agg (nameL nm).toArray) rfl (by kernel_rfl) (by kernel_rfl) (by kernel_rfl) (fun _ _ _ h => h) (yieldsIf_mid 28 (.tmp 12) rfl w.heap.size 4 rfl (nameL nm) _ (fun w' hSw => (HRG.out w' hSw).2) Tryd.underlying28 rfl (by rw [nameL_len, HA.out]; exact infoName) ?_) KS ?_
  · rfl
  try simp only [Act.put, List.setIfInBounds_toArray, List.set_cons_zero, List.set_cons_succ]
  refine wpAnyH_ready (rs := [5, 9]) (by kernel_rfl) (by simp) ?_
  refine AllReadyH.cons (o := ⟨_, _, _, _, _, _⟩) rfl (fun K hK => ?_) (AllReadyH.cons (o := ⟨_, _, _, _, _, _⟩) rfl (fun K hK => ?_) AllReadyH.nil)
  focus (
    go_simp
    refine (after_any p s nm HA.out _ (HRG.out _ KS).1).mono ?_
    rintro e w2 ⟨rfl, kk⟩
    rw [HY.out.2.2, HN.out]
    have K2 := Lib.hid (KS.then kk (by simp))
    clear kk
    go_wp2_with fail
    refine hK.out _ _ K2.out (fun _ => ?_)
    clear hK K
    try simp only [Act.put, List.setIfInBounds_toArray, List.set_cons_zero, List.set_cons_succ]
    refine wpAnyH_take (i := 6) (oi := ⟨_, _, _, _, _, _⟩) (v := ?_) rfl (by kernel_rfl) (by kernel_rfl) (by kernel_rfl) (fun _ _ _ h => h) (Or.inl ⟨by rfl, ?_⟩) K2.out ?_
    rotate_left
    · intro w' hSw; (go_simp; try with_reducible rfl)
    try simp only [Act.put, List.setIfInBounds_toArray, List.set_cons_zero, List.set_cons_succ]
    refine wpAnyH_take (i := 7) (oi := ⟨_, _, _, _, _, _⟩) (v := ?_) rfl (by kernel_rfl) (by kernel_rfl) (by kernel_rfl) (fun _ _ _ h => h) (Or.inl ⟨by rfl, ?_⟩) K2.out ?_
    rotate_left
    · intro w' hSw; (go_simp; try with_reducible rfl)
    try simp only [Act.put, List.setIfInBounds_toArray, List.set_cons_zero, List.set_cons_succ]
    refine wpAnyH_take (i := 8) (oi := ⟨_, _, _, _, _, _⟩) (v := ?_) rfl (by kernel_rfl) (by kernel_rfl) (by kernel_rfl) (fun _ _ _ h => h) (Or.inl ⟨by rfl, ?_⟩) K2.out ?_
    rotate_left
    · intro w' hSw; (go_simp; try with_reducible rfl)
    try simp only [Act.put, List.setIfInBounds_toArray, List.set_cons_zero, List.set_cons_succ]
    refine wpAnyH_ready (rs := [9]) (by kernel_rfl) (by simp) ?_
    refine AllReadyH.cons (o := ⟨_, _, _, _, _, _⟩) rfl (fun K hK => ?_) AllReadyH.nil
    refine step_alloc_to _ _ rfl 28 rfl Z.toArray HZ.out.1 (rfl : w2.alloc (.cells Z.toArray 28) = _) ?_
    refine hK.out _ _ (K2.out.alloc (.cells Z.toArray 28)) (fun _ => ?_)
    clear hK K
    try simp only [Act.put, List.setIfInBounds_toArray, List.set_cons_zero, List.set_cons_succ]
    have RQ := Lib.hid (rowAt.new w2 28 Z.toArray)
    have KQ := Lib.hid (And.intro (K2.out.alloc (.cells Z.toArray 28)) (show w1.heap.size ≤ w2.heap.size from K2.out.size))
    obtain ⟨d, hd⟩ : ∃ d, w2.heap.size = d := ⟨_, rfl⟩
    rw [hd] at RQ KQ ⊢
    generalize w2.alloc (.cells Z.toArray 28) = W at *
    clear hd)
  rotate_left
  focus (
    refine step_alloc_to _ _ rfl 28 rfl Z.toArray HZ.out.1 (rfl : w1.drew.alloc (.cells Z.toArray 28) = _) ?_
    refine hK.out _ _ (KS.alloc (.cells Z.toArray 28)) (fun _ => ?_)
    clear hK K
    try simp only [Act.put, List.setIfInBounds_toArray, List.set_cons_zero, List.set_cons_succ]
    refine wpAnyH_ready (rs := [5]) (by kernel_rfl) (by simp) ?_
    refine AllReadyH.cons (o := ⟨_, _, _, _, _, _⟩) rfl (fun K hK => ?_) AllReadyH.nil
    go_simp
    refine (after_any p s nm HA.out _ (HRG.out _ (KS.alloc (.cells Z.toArray 28))).1).mono ?_
    rintro e w2 ⟨rfl, kk⟩
    rw [HY.out.2.2, HN.out]
    have K2 := Lib.hid ((KS.alloc (.cells Z.toArray 28)).then kk (by simp))
    have RQ := Lib.hid (kk.row (rowAt.new w1.drew 28 Z.toArray) (by simp))
    clear kk
    go_wp2_with fail
    refine hK.out _ _ K2.out (fun _ => ?_)
    clear hK K
    try simp only [Act.put, List.setIfInBounds_toArray, List.set_cons_zero, List.set_cons_succ]
    have KQ := Lib.hid (And.intro K2.out (show w1.heap.size ≤ w1.drew.heap.size from Nat.le_refl _))
    refine wpAnyH_take (i := 6) (oi := ⟨_, _, _, _, _, _⟩) (v := ?_) rfl (by kernel_rfl) (by kernel_rfl) (by kernel_rfl) (fun _ _ _ h => h) (Or.inl ⟨by rfl, ?_⟩) K2.out ?_
    rotate_left
    · intro w' hSw; (go_simp; try with_reducible rfl)
    try simp only [Act.put, List.setIfInBounds_toArray, List.set_cons_zero, List.set_cons_succ]
    refine wpAnyH_take (i := 7) (oi := ⟨_, _, _, _, _, _⟩) (v := ?_) rfl (by kernel_rfl) (by kernel_rfl) (by kernel_rfl) (fun _ _ _ h => h) (Or.inl ⟨by rfl, ?_⟩) K2.out ?_
    rotate_left
    · intro w' hSw; (go_simp; try with_reducible rfl)
    try simp only [Act.put, List.setIfInBounds_toArray, List.set_cons_zero, List.set_cons_succ]
    refine wpAnyH_take (i := 8) (oi := ⟨_, _, _, _, _, _⟩) (v := ?_) rfl (by kernel_rfl) (by kernel_rfl) (by kernel_rfl) (fun _ _ _ h => h) (Or.inl ⟨by rfl, ?_⟩) K2.out ?_
    rotate_left
    · intro w' hSw; (go_simp; try with_reducible rfl)
    try simp only [Act.put, List.setIfInBounds_toArray, List.set_cons_zero, List.set_cons_succ]
    obtain ⟨d, hd⟩ : ∃ d, w1.drew.heap.size = d := ⟨_, rfl⟩
    rw [hd] at RQ KQ
    try rw [hd]
    change w1.heap.size = d at hd
    try rw [hd]
    clear hd
    generalize w2 = W at *)
  all_goals (
    refine wpAnyH_ready (rs := [10]) (by kernel_rfl) (by simp) ?_
    refine AllReadyH.cons (o := ⟨_, _, _, _, _, _⟩) rfl (fun K hK => ?_) AllReadyH.nil
    refine step_store_mid rfl 28 (.tmp 6) (.tmp 15) rfl d 0 Y.toArray rfl rfl (RQ.out.there (by simp only [List.size_toArray]; rw [HY.out.1, HZ.out.2]; omega)) (by rw [List.size_toArray, HY.out.1]; exact infoName) (all_oneCell_toArray HY.out.2.1) ?_
    refine hK.out _ _ (KQ.out.1.setL (vs := Y) (o := 0) (.inr KQ.out.2)) (fun _ => ?_)
    clear hK K
    try simp only [Act.put, List.setIfInBounds_toArray, List.set_cons_zero, List.set_cons_succ]
    refine wpAnyH_take (i := 11) (oi := ⟨_, _, _, _, _, _⟩) (v := ?_) rfl (by kernel_rfl) (by kernel_rfl) (by kernel_rfl) (fun _ _ _ h => h) (Or.inl ⟨by rfl, ?_⟩) (KQ.out.1.setL (vs := Y) (o := 0) (.inr KQ.out.2)) ?_
    rotate_left
    · intro w' hSw; (go_simp; try with_reducible rfl)
    try simp only [Act.put, List.setIfInBounds_toArray, List.set_cons_zero, List.set_cons_succ]
    refine wpAnyH_done (by kernel_rfl) ?_ _
    have r5 := RQ.out.setL (vs := Y) (o := 0)
    rw [putL_all (by simp only [List.size_toArray]; rw [HY.out.1, HZ.out.2])] at r5
    have k5 : keepBut [] w1 (W.setCells d 0 Y) := (KQ.out.1.setL (vs := Y) (o := 0) (.inr KQ.out.2))
    go_upto_region 2 with fail
    try simp only [List.toList_toArray]
    generalize W.setCells d 0 Y = W5 at *
    have K5 := Lib.hid k5
    have RA := Lib.hid (k5.row HQ.out.1 (by simp))
    have RD := Lib.hid r5
    have hy : W5.cell? ⟨q, 2, none⟩ = some (.int .i64 a.code) := RA.out.cell 2
    have hf := RA.out.free 2
    clear r5 k5
    go_wp2_with fail
    go_end0
    have e0 : afterN s r.name = none := by rw [HNM.out]; exact Option.not_isSome_iff_eq_none.1 (by rw [HN.out]; simp)
    have e1 : actNext s r a = { a with code := 1 } := by unfold actNext; rw [e0]
    have r9 := RA.out.set 2 (.int .i64 1)
    have kq := kset W5 q 2 (.int .i64 1)
    refine ⟨nilV, [], rfl, by rw [e1]; exact r9, by rw [e1]; show bytesV _ _ _ a.env; rw [HQ.out.2.2.1]; exact bytesV.nil _ _, fun y hy => by simp at hy, by simp, ((HK.out.then K5.out (by simp)).more (by simp)).then kq (fun x hx => .inl hx)⟩)
set_option maxHeartbeats 8000000 in
theorem actNext_yes (p q : Nat) (s : TS) (F : List Nat) (r : RQ) (ev : Value) (a : AN) (w : World) (h : isT w p s) (hr : rqV w F r ev) (hq : rowAt w q 40 (anL a nilV).toArray) (hqa : q ∉ homes s.av) (hqF : q ∉ F) (han : a.name.length = 32) (hae : a.env = []) (hno : (afterN s r.name).isSome = true) :
    Calls Tryd.prog 54 #[.pointer (some ⟨p, 0, none⟩), .agg (rqL r ev).toArray, .pointer (some ⟨q, 0, none⟩)] w (actPost q (actNext s r a) w) := by
  obtain ⟨X, hX⟩ : ∃ X, rqL r ev = X := ⟨_, rfl⟩
  have hXn : ∀ j v, (nameL r.name)[j]? = some v → X.toArray[4 + j]? = some v := by rw [← hX]; exact rqL_name r ev
  rw [hX]
  obtain ⟨w1, hw1⟩ : ∃ w1, w.alloc (.cells X.toArray 31) = w1 := ⟨_, rfl⟩
  have r1 : rowAt w1 w.heap.size 31 X.toArray := hw1 ▸ rowAt.new _ _ _
  have k1 : keepBut [] w w1 := hw1 ▸ (keepBut.refl [] w).alloc _
  obtain ⟨Z, hZ⟩ : ∃ Z, nameL nameZ = Z := ⟨_, rfl⟩
  have hz := zv_nm
  rw [hZ] at hz
  have HZ := Lib.hid (And.intro hz (show Z.length = 32 by rw [← hZ, nameL_len, nameZ_len]))
  have hal := afterC_len h r.name
  obtain ⟨Y, hY⟩ : ∃ Y, nameL (afterC s r.name) = Y := ⟨_, rfl⟩
  have HY := Lib.hid (And.intro (show Y.length = 32 by rw [← hY, nameL_len, hal]) (And.intro (show ∀ u ∈ Y, u.oneCell' = true by rw [← hY]; exact nameL_one) hY))
  have HW1 := Lib.hid hw1
  have HRG : Hid (∀ W, keepBut [] w1 W → isT W p s ∧ W.rangeAt w.heap.size 4 (nameL r.name)) := Lib.hid (fun W k => ⟨(h.over k1).over k, (k.row r1 (by simp)).range hXn⟩)
  have HT := Lib.hid (h.over k1)
  have HK := Lib.hid k1
  have HA := Lib.hid hr.1
  have HQ := Lib.hid (And.intro (k1.row hq (by simp)) (And.intro han (And.intro hae hq.lt)))
  have H0 := Lib.hid (And.intro h (And.intro hr (And.intro hq (And.intro hqa (And.intro hqF (And.intro hX (And.intro r1 k1)))))))
  have HN := Lib.hid hno
  clear hw1 r1 k1 h hX hXn hr hq han hae hno hz hZ hY hal hqa hqF
  generalize hnm : r.name = nm at *
  have HNM := Lib.hid hnm
  clear hnm
  go_enter Tryd.func54, Tryd.ntmps54
  go_upto_region 1 with (with_reducible refine wpList_box_to _ _ rfl 31 (.tmp 1) rfl _ rfl HW1.out ?_)
  have KS : keepBut [] w1 w1.drew := (keepBut.refl [] w1).drew
  refine wp_region_held_drew (S := fun W => keepBut [] w1 W) (by kernel_rfl) KS (fun _ => ?_)
  refine wpAnyH_take (i := 0) (oi := ⟨_, _, _, _, _, _⟩) (v := ?_) rfl (by kernel_rfl) (by kernel_rfl) (by kernel_rfl) (fun _ _ _ h => h) (Or.inl ⟨by rfl, ?_⟩) KS ?_
  rotate_left
  · intro w' hSw; (go_simp; try with_reducible rfl)
  try simp only [Act.put, List.setIfInBounds_toArray, List.set_cons_zero, List.set_cons_succ]
  refine wpAnyH_take (i := 1) (oi := ⟨_, _, _, _, _, _⟩) (v := ?_) rfl (by kernel_rfl) (by kernel_rfl) (by kernel_rfl) (fun _ _ _ h => h) (Or.inl ⟨by rfl, ?_⟩) KS ?_
  rotate_left
  · intro w' hSw; (go_simp; try with_reducible rfl)
  try simp only [Act.put, List.setIfInBounds_toArray, List.set_cons_zero, List.set_cons_succ]
  refine wpAnyH_take (i := 2) (oi := ⟨_, _, _, _, _, _⟩) (v := ?_) rfl (by kernel_rfl) (by kernel_rfl) (by kernel_rfl) (fun _ _ _ h => h) (Or.inl ⟨by rfl, ?_⟩) KS ?_
  rotate_left
  · intro w' hSw; (go_simp; try with_reducible rfl)
  try simp only [Act.put, List.setIfInBounds_toArray, List.set_cons_zero, List.set_cons_succ]
  refine wpAnyH_take (i := 3) (oi := ⟨_, _, _, _, _, _⟩) (v := ?_) rfl (by kernel_rfl) (by kernel_rfl) (by kernel_rfl) (fun _ _ _ h => h) (Or.inl ⟨by rfl, ?_⟩) KS ?_
  rotate_left
  · intro w' hSw; (go_simp; try with_reducible rfl)
  try simp only [Act.put, List.setIfInBounds_toArray, List.set_cons_zero, List.set_cons_succ]
  refine wpAnyH_take (i := 4) (oi := ⟨_, _, _, _, _, _⟩) (v := .agg (nameL nm).toArray) rfl (by kernel_rfl) (by kernel_rfl) (by kernel_rfl) (fun _ _ _ h => h) (yieldsIf_mid 28 (.tmp 12) rfl w.heap.size 4 rfl (nameL nm) _ (fun w' hSw => (HRG.out w' hSw).2) Tryd.underlying28 rfl (by rw [nameL_len, HA.out]; exact infoName) ?_) KS ?_
  · rfl
  try simp only [Act.put, List.setIfInBounds_toArray, List.set_cons_zero, List.set_cons_succ]
  refine wpAnyH_ready (rs := [5, 9]) (by kernel_rfl) (by simp) ?_
  refine AllReadyH.cons (o := ⟨_, _, _, _, _, _⟩) rfl (fun K hK => ?_) (AllReadyH.cons (o := ⟨_, _, _, _, _, _⟩) rfl (fun K hK => ?_) AllReadyH.nil)
  focus (
    go_simp
    refine (after_any p s nm HA.out _ (HRG.out _ KS).1).mono ?_
    rintro e w2 ⟨rfl, kk⟩
    rw [HY.out.2.2, HN.out]
    have K2 := Lib.hid (KS.then kk (by simp))
    clear kk
    go_wp2_with fail
    refine hK.out _ _ K2.out (fun _ => ?_)
    clear hK K
    try simp only [Act.put, List.setIfInBounds_toArray, List.set_cons_zero, List.set_cons_succ]
    refine wpAnyH_take (i := 6) (oi := ⟨_, _, _, _, _, _⟩) (v := ?_) rfl (by kernel_rfl) (by kernel_rfl) (by kernel_rfl) (fun _ _ _ h => h) (Or.inl ⟨by rfl, ?_⟩) K2.out ?_
    rotate_left
    · intro w' hSw; (go_simp; try with_reducible rfl)
    try simp only [Act.put, List.setIfInBounds_toArray, List.set_cons_zero, List.set_cons_succ]
    refine wpAnyH_take (i := 7) (oi := ⟨_, _, _, _, _, _⟩) (v := ?_) rfl (by kernel_rfl) (by kernel_rfl) (by kernel_rfl) (fun _ _ _ h => h) (Or.inl ⟨by rfl, ?_⟩) K2.out ?_
    rotate_left
    · intro w' hSw; (go_simp; try with_reducible rfl)
    try simp only [Act.put, List.setIfInBounds_toArray, List.set_cons_zero, List.set_cons_succ]
    refine wpAnyH_take (i := 8) (oi := ⟨_, _, _, _, _, _⟩) (v := ?_) rfl (by kernel_rfl) (by kernel_rfl) (by kernel_rfl) (fun _ _ _ h => h) (Or.inl ⟨by rfl, ?_⟩) K2.out ?_
    rotate_left
    · intro w' hSw; (go_simp; try with_reducible rfl)
    try simp only [Act.put, List.setIfInBounds_toArray, List.set_cons_zero, List.set_cons_succ]
    refine wpAnyH_ready (rs := [9]) (by kernel_rfl) (by simp) ?_
    refine AllReadyH.cons (o := ⟨_, _, _, _, _, _⟩) rfl (fun K hK => ?_) AllReadyH.nil
    refine step_alloc_to _ _ rfl 28 rfl Z.toArray HZ.out.1 (rfl : w2.alloc (.cells Z.toArray 28) = _) ?_
    refine hK.out _ _ (K2.out.alloc (.cells Z.toArray 28)) (fun _ => ?_)
    clear hK K
    try simp only [Act.put, List.setIfInBounds_toArray, List.set_cons_zero, List.set_cons_succ]
    have RQ := Lib.hid (rowAt.new w2 28 Z.toArray)
    have KQ := Lib.hid (And.intro (K2.out.alloc (.cells Z.toArray 28)) (show w1.heap.size ≤ w2.heap.size from K2.out.size))
    obtain ⟨d, hd⟩ : ∃ d, w2.heap.size = d := ⟨_, rfl⟩
    rw [hd] at RQ KQ ⊢
    generalize w2.alloc (.cells Z.toArray 28) = W at *
    clear hd)
  rotate_left
  focus (
    refine step_alloc_to _ _ rfl 28 rfl Z.toArray HZ.out.1 (rfl : w1.drew.alloc (.cells Z.toArray 28) = _) ?_
    refine hK.out _ _ (KS.alloc (.cells Z.toArray 28)) (fun _ => ?_)
    clear hK K
    try simp only [Act.put, List.setIfInBounds_toArray, List.set_cons_zero, List.set_cons_succ]
    refine wpAnyH_ready (rs := [5]) (by kernel_rfl) (by simp) ?_
    refine AllReadyH.cons (o := ⟨_, _, _, _, _, _⟩) rfl (fun K hK => ?_) AllReadyH.nil
    go_simp
    refine (after_any p s nm HA.out _ (HRG.out _ (KS.alloc (.cells Z.toArray 28))).1).mono ?_
    rintro e w2 ⟨rfl, kk⟩
    rw [HY.out.2.2, HN.out]
    have K2 := Lib.hid ((KS.alloc (.cells Z.toArray 28)).then kk (by simp))
    have RQ := Lib.hid (kk.row (rowAt.new w1.drew 28 Z.toArray) (by simp))
    clear kk
    go_wp2_with fail
    refine hK.out _ _ K2.out (fun _ => ?_)
    clear hK K
    try simp only [Act.put, List.setIfInBounds_toArray, List.set_cons_zero, List.set_cons_succ]
    have KQ := Lib.hid (And.intro K2.out (show w1.heap.size ≤ w1.drew.heap.size from Nat.le_refl _))
    refine wpAnyH_take (i := 6) (oi := ⟨_, _, _, _, _, _⟩) (v := ?_) rfl (by kernel_rfl) (by kernel_rfl) (by kernel_rfl) (fun _ _ _ h => h) (Or.inl ⟨by rfl, ?_⟩) K2.out ?_
    rotate_left
    · intro w' hSw; (go_simp; try with_reducible rfl)
    try simp only [Act.put, List.setIfInBounds_toArray, List.set_cons_zero, List.set_cons_succ]
    refine wpAnyH_take (i := 7) (oi := ⟨_, _, _, _, _, _⟩) (v := ?_) rfl (by kernel_rfl) (by kernel_rfl) (by kernel_rfl) (fun _ _ _ h => h) (Or.inl ⟨by rfl, ?_⟩) K2.out ?_
    rotate_left
    · intro w' hSw; (go_simp; try with_reducible rfl)
    try simp only [Act.put, List.setIfInBounds_toArray, List.set_cons_zero, List.set_cons_succ]
    refine wpAnyH_take (i := 8) (oi := ⟨_, _, _, _, _, _⟩) (v := ?_) rfl (by kernel_rfl) (by kernel_rfl) (by kernel_rfl) (fun _ _ _ h => h) (Or.inl ⟨by rfl, ?_⟩) K2.out ?_
    rotate_left
    · intro w' hSw; (go_simp; try with_reducible rfl)
    try simp only [Act.put, List.setIfInBounds_toArray, List.set_cons_zero, List.set_cons_succ]
    obtain ⟨d, hd⟩ : ∃ d, w1.drew.heap.size = d := ⟨_, rfl⟩
    rw [hd] at RQ KQ
    try rw [hd]
    change w1.heap.size = d at hd
    try rw [hd]
    clear hd
    generalize w2 = W at *)
  all_goals (
    refine wpAnyH_ready (rs := [10]) (by kernel_rfl) (by simp) ?_
    refine AllReadyH.cons (o := ⟨_, _, _, _, _, _⟩) rfl (fun K hK => ?_) AllReadyH.nil
    refine step_store_mid rfl 28 (.tmp 6) (.tmp 15) rfl d 0 Y.toArray rfl rfl (RQ.out.there (by simp only [List.size_toArray]; rw [HY.out.1, HZ.out.2]; omega)) (by rw [List.size_toArray, HY.out.1]; exact infoName) (all_oneCell_toArray HY.out.2.1) ?_
    refine hK.out _ _ (KQ.out.1.setL (vs := Y) (o := 0) (.inr KQ.out.2)) (fun _ => ?_)
    clear hK K
    try simp only [Act.put, List.setIfInBounds_toArray, List.set_cons_zero, List.set_cons_succ]
    refine wpAnyH_take (i := 11) (oi := ⟨_, _, _, _, _, _⟩) (v := ?_) rfl (by kernel_rfl) (by kernel_rfl) (by kernel_rfl) (fun _ _ _ h => h) (Or.inl ⟨by rfl, ?_⟩) (KQ.out.1.setL (vs := Y) (o := 0) (.inr KQ.out.2)) ?_
    rotate_left
    · intro w' hSw; (go_simp; try with_reducible rfl)
    try simp only [Act.put, List.setIfInBounds_toArray, List.set_cons_zero, List.set_cons_succ]
    refine wpAnyH_done (by kernel_rfl) ?_ _
    have r5 := RQ.out.setL (vs := Y) (o := 0)
    rw [putL_all (by simp only [List.size_toArray]; rw [HY.out.1, HZ.out.2])] at r5
    have k5 : keepBut [] w1 (W.setCells d 0 Y) := (KQ.out.1.setL (vs := Y) (o := 0) (.inr KQ.out.2))
    go_upto_region 2 with fail
    try simp only [List.toList_toArray]
    generalize W.setCells d 0 Y = W5 at *
    have K5 := Lib.hid k5
    have RA := Lib.hid (k5.row HQ.out.1 (by simp))
    have RD := Lib.hid r5
    clear r5 k5
    obtain ⟨n, hn⟩ : ∃ n, afterN s r.name = some n := by rw [HNM.out]; exact Option.isSome_iff_exists.1 HN.out
    have hYn : Y = nameL n := by rw [← HY.out.2.2]; unfold afterC; rw [← HNM.out, hn]
    have hnl : n.length = 32 := by have h1 := HY.out.1; rw [hYn, nameL_len] at h1; exact h1
    have HYN := Lib.hid (And.intro hYn (And.intro hnl hn))
    clear hYn hnl hn
    have TQ := Lib.hid (RA.out.there (o := 5) (n := Y.toArray.size) (by simp only [List.size_toArray]; rw [HY.out.1, anL_len HQ.out.2.1]; omega))
    go_upto_region 5 with (first
      | (refine wpList_load_mid rfl 28 (.tmp 6) rfl d 0 rfl Y _ RD.out.rangeAll Tryd.underlying28 rfl (by rw [HY.out.1]; exact infoName) ?_)
      | (refine wpList_store_mid rfl 28 (.tmp 25) (.tmp 23) rfl q 5 Y.toArray rfl rfl TQ.out (by rw [List.size_toArray, HY.out.1]; exact infoName) (all_oneCell_toArray HY.out.2.1) ?_))
    have r6 := RA.out.setL (vs := Y) (o := 5)
    rw [HYN.out.1, anL_setName HQ.out.2.1 HYN.out.2.1, ← HYN.out.1] at r6
    have k6 := (keepBut.refl [q] W5).setL (vs := Y) (g := q) (o := 5) (.inl (by simp))
    try simp only [List.toList_toArray]
    generalize W5.setCells q 5 Y = W6 at *
    have hdq : d ∉ [q] := by have := HQ.out.2.2.2; have := KQ.out.2; have := HK.out.size; simp; omega
    have hbq : w.heap.size ∉ [q] := by have := HQ.out.2.2.2; simp; omega
    have HB := Lib.hid (k6.row (K5.out.row H0.out.2.2.2.2.2.2.1 (by simp)) hbq)
    have RD6 := Lib.hid (k6.row RD.out hdq)
    have R6 := Lib.hid r6
    have K6 := Lib.hid k6
    have HXR := Lib.hid H0.out.2.2.2.2.2.1
    clear r6 k6 hdq hbq
    have TB := Lib.hid (HB.out.there (o := 4) (n := Y.toArray.size) (by simp only [List.size_toArray]; rw [HY.out.1, ← HXR.out, rqL_len H0.out.2.1.1]; omega))
    go_upto_region 6 with (first
      | (refine wpList_load_mid rfl 28 (.tmp 6) rfl d 0 rfl Y _ RD6.out.rangeAll Tryd.underlying28 rfl (by rw [HY.out.1]; exact infoName) ?_)
      | (refine wpList_store_mid rfl 28 (.tmp 27) (.tmp 26) rfl w.heap.size 4 Y.toArray rfl rfl TB.out (by rw [List.size_toArray, HY.out.1]; exact infoName) (all_oneCell_toArray HY.out.2.1) ?_))
    have r7 := HB.out.setL (vs := Y) (o := 4)
    rw [HYN.out.1, ← HXR.out, rqL_setName H0.out.2.1.1 HYN.out.2.1, ← HYN.out.1] at r7
    have k7 := (keepBut.refl [w.heap.size] W6).setL (vs := Y) (g := w.heap.size) (o := 4) (.inl (by simp))
    try simp only [List.toList_toArray]
    generalize W6.setCells w.heap.size 4 Y = W7 at *
    obtain ⟨V, hV⟩ : ∃ V, rqL { r with name := n } ev = V := ⟨_, rfl⟩
    rw [hV] at r7
    have HVL := Lib.hid (And.intro (show V.length = 37 by rw [← hV]; exact rqL_len HYN.out.2.1) hV)
    clear hV
    have R7 := Lib.hid r7
    have kA : keepBut [q] w W7 := (((HK.out.then K5.out (by simp)).more (by simp)).then K6.out (fun x hx => .inl hx)).then k7 (fun x hx => by simp at hx; subst hx; exact .inr (Nat.le_refl _))
    have KA := Lib.hid kA
    have HG := Lib.hid (actGet_any p q s F { r with name := n } ev { a with name := n } W7 (H0.out.1.keepQ H0.out.2.2.1 H0.out.2.2.2.1 kA) ⟨HYN.out.2.1, H0.out.2.1.2.keep kA (fun y hy => by simp only [List.mem_singleton]; rintro rfl; exact H0.out.2.2.2.2.1 hy)⟩ (k7.row R6.out (by have := HQ.out.2.2.2; simp; omega)) HYN.out.2.1 HQ.out.2.2.1)
    rw [HVL.out.2] at HG
    clear r7 k7 kA
    go_wp2_with (first
      | (refine wpList_load_mid rfl 31 (.tmp 4) rfl w.heap.size 0 rfl V _ R7.out.rangeAll Tryd.underlying31 rfl (by rw [HVL.out.1]; exact info_rq) ?_)
      | (go_at_call 52; refine HG.out.mono ?_; rintro e w9 ⟨v9, G, rfl, n9⟩; have N9 := Lib.hid n9; clear n9))
    go_end0
    have e1 : actNext s r a = actGet s { r with name := n } { a with name := n } := by unfold actNext; rw [HYN.out.2.2]
    have s7 := KA.out.size
    rw [e1]
    exact ⟨v9, G, rfl, N9.out.1, N9.out.2.1, N9.out.2.2.1, fun y hy => ⟨by have := (N9.out.2.2.2.1 y hy).1; omega, (N9.out.2.2.2.1 y hy).2⟩, KA.out.then N9.out.2.2.2.2 (fun x hx => .inl hx)⟩)
end Go.Proofs.YtmlmhnhilemjhaaDoor
