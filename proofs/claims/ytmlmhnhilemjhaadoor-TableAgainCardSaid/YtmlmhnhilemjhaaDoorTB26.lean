/-
  TABLE, 26: the act put.
-/
import Derived.Test.YtmlmhnhilemjhaaDoorTB25
namespace Go.Proofs.YtmlmhnhilemjhaaDoor
open Go.RowKit
set_option linter.unusedVariables false
set_option maxRecDepth 100000
set_option linter.unusedSimpArgs false

theorem isT.vown_q {w : World} {p q : Nat} {s : TS} {cs : Array Value} (h : isT w p s) (hq : rowAt w q 40 cs) : q ∉ homes s.kv ++ homes s.vv := by
  intro hm
  rcases List.mem_append.1 hm with hm | hm
  · exact h.kown.apart hq (by decide) hm
  · exact h.vown.apart hq (by decide) hm
set_option maxHeartbeats 8000000 in
theorem actPut_he (p q : Nat) (s : TS) (F : List Nat) (r : RQ) (ev : Value) (a : AN) (w : World) (h : isT w p s) (hr : rqV w F r ev) (hq : rowAt w q 40 (anL a nilV).toArray) (hqa : q ∉ homes s.av) (han : a.name.length = 32) (hae : a.env = []) (hb : IntKind.i64.wrap (verN s r.name + 1) = verN s r.name + 1) (hel : r.env.length ≤ 1000)
    (hh : hitN s r.name = true) (he : r.version = verN s r.name + 1) :
    Calls Tryd.prog 53 #[.pointer (some ⟨p, 0, none⟩), .agg (rqL r ev).toArray, .pointer (some ⟨q, 0, none⟩)] w (actDone p q s (aPut s.pure r a) w) := by
  obtain ⟨X, hX⟩ : ∃ X, rqL r ev = X := ⟨_, rfl⟩
  have hXn : ∀ j v, (nameL r.name)[j]? = some v → X.toArray[4 + j]? = some v := by rw [← hX]; exact rqL_name r ev
  have hX3 : X.toArray[3]? = some (.int .i64 r.version) := by rw [← hX]; rfl
  have hXe : X.toArray[36]? = some ev := by rw [← hX]; exact rqL_env hr.1
  rw [hX]
  obtain ⟨w1, hw1⟩ : ∃ w1, w.alloc (.cells X.toArray 31) = w1 := ⟨_, rfl⟩
  have r1 : rowAt w1 w.heap.size 31 X.toArray := hw1 ▸ rowAt.new _ _ _
  have k1 : keepBut [] w w1 := hw1 ▸ (keepBut.refl [] w).alloc _
  have HW1 := Lib.hid hw1
  have HRG : Hid (∀ W, keepBut [] w1 W → isT W p s ∧ W.rangeAt w.heap.size 4 (nameL r.name)) := Lib.hid (fun W k => ⟨(h.over k1).over k, (k.row r1 (by simp)).range hXn⟩)
  have HT := Lib.hid (h.over k1)
  have HK := Lib.hid k1
  have HA := Lib.hid hr.1
  have HQ := Lib.hid (And.intro (k1.row hq (by simp)) (And.intro han (And.intro hae hq.lt)))
  have HH := Lib.hid hh
  have H0 := Lib.hid (And.intro h (And.intro hr (And.intro hq (And.intro hqa (And.intro hel hX)))))
  have HX := Lib.hid (And.intro hX3 (And.intro hXe r1))
  obtain ⟨hev, hel2⟩ := h.evN r.name
  obtain ⟨A0, cE, g0, hE, _⟩ := id hev
  rw [hE] at hev
  have HE := Lib.hid hE
  have HV := Lib.hid (And.intro (hev.keep k1 (by simp)) hel2)
  have hbr := hr.2
  obtain ⟨AR, cR, gR, hER, _⟩ := id hbr
  have HER := Lib.hid hER
  have HB := Lib.hid hb
  have HC := Lib.hid he
  clear he
  clear hw1 r1 k1 h hE hev hel2 hX hXn hr hq hqa han hae hh hX3 hXe hel hbr hER hb
  generalize hnm : r.name = nm at *
  have HNM := Lib.hid hnm
  clear hnm
  generalize hvr : r.version = vr at *
  have HVR := Lib.hid hvr
  clear hvr
  generalize hvn : verN s nm = vn at *
  have HVN := Lib.hid hvn
  clear hvn
  go_enter Tryd.func53, Tryd.ntmps53
  go_upto_region 1 with (with_reducible refine wpList_box_to _ _ rfl 31 (.tmp 1) rfl _ rfl HW1.out ?_)
  have KS : keepBut [] w1 w1.drew := (keepBut.refl [] w1).drew
  refine wp_region_held_drew (S := fun W => keepBut [] w1 W) (by kernel_rfl) KS (fun _ => ?_)
  refine wpAnyH_take (i := 0) (oi := ⟨_, _, _, _, _, _⟩) (v := ?_) rfl (by kernel_rfl) (by kernel_rfl) (by kernel_rfl) (fun _ _ _ h => h) (Or.inl ⟨by rfl, ?_⟩) KS ?_
  rotate_left
  · intro w' hSw; (go_simp; try with_reducible rfl)
  try simp only [Act.put, List.setIfInBounds_toArray, List.set_cons_zero, List.set_cons_succ]
  refine wpAnyH_take (i := 1) (oi := ⟨_, _, _, _, _, _⟩) (v := ?_) rfl (by kernel_rfl) (by kernel_rfl) (by kernel_rfl) (fun _ _ _ h => h) (Or.inl ⟨by rfl, ?_⟩) KS ?_
  rotate_left
  · intro w' hSw; (go_simp; try with_reducible rfl)
  try simp only [Act.put, List.setIfInBounds_toArray, List.set_cons_zero, List.set_cons_succ]
  refine wpAnyH_take (i := 2) (oi := ⟨_, _, _, _, _, _⟩) (v := ?_) rfl (by kernel_rfl) (by kernel_rfl) (by kernel_rfl) (fun _ _ _ h => h) (Or.inl ⟨by rfl, ?_⟩) KS ?_
  rotate_left
  · intro w' hSw; (go_simp; try with_reducible rfl)
  try simp only [Act.put, List.setIfInBounds_toArray, List.set_cons_zero, List.set_cons_succ]
  refine wpAnyH_take (i := 3) (oi := ⟨_, _, _, _, _, _⟩) (v := ?_) rfl (by kernel_rfl) (by kernel_rfl) (by kernel_rfl) (fun _ _ _ h => h) (Or.inl ⟨by rfl, ?_⟩) KS ?_
  rotate_left
  · intro w' hSw; (go_simp; try with_reducible rfl)
  try simp only [Act.put, List.setIfInBounds_toArray, List.set_cons_zero, List.set_cons_succ]
  refine wpAnyH_take (i := 4) (oi := ⟨_, _, _, _, _, _⟩) (v := .agg (nameL nm).toArray) rfl (by kernel_rfl) (by kernel_rfl) (by kernel_rfl) (fun _ _ _ h => h) (yieldsIf_mid 28 (.tmp 12) rfl w.heap.size 4 rfl (nameL nm) _ (fun w' hSw => (HRG.out w' hSw).2) Tryd.underlying28 rfl (by rw [nameL_len, HA.out]; exact infoName) ?_) KS ?_
  · rfl
  try simp only [Act.put, List.setIfInBounds_toArray, List.set_cons_zero, List.set_cons_succ]
  refine wpAnyH_ready (rs := [5, 9]) (by kernel_rfl) (by simp) ?_
  refine AllReadyH.cons (o := ⟨_, _, _, _, _, _⟩) rfl (fun K hK => ?_) (AllReadyH.cons (o := ⟨_, _, _, _, _, _⟩) rfl (fun K hK => ?_) AllReadyH.nil)
  go_simp
  refine (getN_any p s nm HA.out _ (HRG.out _ KS).1).mono ?_
  rintro e w2 ⟨rfl, kk⟩
  rw [cellsO_eq, HE.out, HH.out, HVN.out]
  have K2 := Lib.hid (KS.then kk (by simp))
  clear kk
  go_wp2_with fail
  refine hK.out _ _ K2.out (fun _ => ?_)
  clear hK K
  try simp only [Act.put, List.setIfInBounds_toArray, List.set_cons_zero, List.set_cons_succ]
  refine wpAnyH_take (i := 6) (oi := ⟨_, _, _, _, _, _⟩) (v := ?_) rfl (by kernel_rfl) (by kernel_rfl) (by kernel_rfl) (fun _ _ _ h => h) (Or.inl ⟨by rfl, ?_⟩) K2.out ?_
  rotate_left
  · intro w' hSw; (go_simp; try with_reducible rfl)
  try simp only [Act.put, List.setIfInBounds_toArray, List.set_cons_zero, List.set_cons_succ]
  refine wpAnyH_take (i := 7) (oi := ⟨_, _, _, _, _, _⟩) (v := ?_) rfl (by kernel_rfl) (by kernel_rfl) (by kernel_rfl) (fun _ _ _ h => h) (Or.inl ⟨by rfl, ?_⟩) K2.out ?_
  rotate_left
  · intro w' hSw; (go_simp; try with_reducible rfl)
  try simp only [Act.put, List.setIfInBounds_toArray, List.set_cons_zero, List.set_cons_succ]
  refine wpAnyH_take (i := 8) (oi := ⟨_, _, _, _, _, _⟩) (v := ?_) rfl (by kernel_rfl) (by kernel_rfl) (by kernel_rfl) (fun _ _ _ h => h) (Or.inl ⟨by rfl, ?_⟩) K2.out ?_
  rotate_left
  · intro w' hSw; (go_simp; try with_reducible rfl)
  try simp only [Act.put, List.setIfInBounds_toArray, List.set_cons_zero, List.set_cons_succ]
  refine wpAnyH_ready (rs := [9]) (by kernel_rfl) (by simp) ?_
  refine AllReadyH.cons (o := ⟨_, _, _, _, _, _⟩) rfl (fun K hK => ?_) AllReadyH.nil
  go_simp
  refine hK.out _ _ (K2.out.alloc (.cells #[.int .i64 0, .slice none 0 0] 72)) (fun _ => ?_)
  clear hK K
  try simp only [Act.put, List.setIfInBounds_toArray, List.set_cons_zero, List.set_cons_succ]
  have RQ := Lib.hid (rowAt.new w2 72 #[.int .i64 0, .slice none 0 0])
  have KQ := Lib.hid (And.intro (K2.out.alloc (.cells #[.int .i64 0, .slice none 0 0] 72)) (show w1.heap.size ≤ w2.heap.size from K2.out.size))
  obtain ⟨d, hd⟩ : ∃ d, w2.heap.size = d := ⟨_, rfl⟩
  rw [hd] at RQ KQ ⊢
  generalize w2.alloc (.cells #[.int .i64 0, .slice none 0 0] 72) = W at *
  clear hd
  rotate_left
  go_simp
  refine hK.out _ _ (KS.alloc (.cells #[.int .i64 0, .slice none 0 0] 72)) (fun _ => ?_)
  clear hK K
  try simp only [Act.put, List.setIfInBounds_toArray, List.set_cons_zero, List.set_cons_succ]
  refine wpAnyH_ready (rs := [5]) (by kernel_rfl) (by simp) ?_
  refine AllReadyH.cons (o := ⟨_, _, _, _, _, _⟩) rfl (fun K hK => ?_) AllReadyH.nil
  go_simp
  refine (getN_any p s nm HA.out _ (HRG.out _ (KS.alloc (.cells #[.int .i64 0, .slice none 0 0] 72))).1).mono ?_
  rintro e w2 ⟨rfl, kk⟩
  rw [cellsO_eq, HE.out, HH.out, HVN.out]
  have K2 := Lib.hid ((KS.alloc (.cells #[.int .i64 0, .slice none 0 0] 72)).then kk (by simp))
  have RQ := Lib.hid (kk.row (rowAt.new w1.drew 72 #[.int .i64 0, .slice none 0 0]) (by simp))
  clear kk
  go_wp2_with fail
  refine hK.out _ _ K2.out (fun _ => ?_)
  clear hK K
  try simp only [Act.put, List.setIfInBounds_toArray, List.set_cons_zero, List.set_cons_succ]
  have KQ := Lib.hid (And.intro K2.out (show w1.heap.size ≤ w1.drew.heap.size from Nat.le_refl _))
  refine wpAnyH_take (i := 6) (oi := ⟨_, _, _, _, _, _⟩) (v := ?_) rfl (by kernel_rfl) (by kernel_rfl) (by kernel_rfl) (fun _ _ _ h => h) (Or.inl ⟨by rfl, ?_⟩) K2.out ?_
  rotate_left
  · intro w' hSw; (go_simp; try with_reducible rfl)
  try simp only [Act.put, List.setIfInBounds_toArray, List.set_cons_zero, List.set_cons_succ]
  refine wpAnyH_take (i := 7) (oi := ⟨_, _, _, _, _, _⟩) (v := ?_) rfl (by kernel_rfl) (by kernel_rfl) (by kernel_rfl) (fun _ _ _ h => h) (Or.inl ⟨by rfl, ?_⟩) K2.out ?_
  rotate_left
  · intro w' hSw; (go_simp; try with_reducible rfl)
  try simp only [Act.put, List.setIfInBounds_toArray, List.set_cons_zero, List.set_cons_succ]
  refine wpAnyH_take (i := 8) (oi := ⟨_, _, _, _, _, _⟩) (v := ?_) rfl (by kernel_rfl) (by kernel_rfl) (by kernel_rfl) (fun _ _ _ h => h) (Or.inl ⟨by rfl, ?_⟩) K2.out ?_
  rotate_left
  · intro w' hSw; (go_simp; try with_reducible rfl)
  try simp only [Act.put, List.setIfInBounds_toArray, List.set_cons_zero, List.set_cons_succ]
  obtain ⟨d, hd⟩ : ∃ d, w1.drew.heap.size = d := ⟨_, rfl⟩
  rw [hd] at RQ KQ
  change w1.heap.size = d at hd
  rw [hd]
  clear hd
  generalize w2 = W at *
  all_goals (
    have c0 := RQ.out.cell 0
    have c1 := RQ.out.cell 1
    have f0 := RQ.out.free 0
    have f1 := RQ.out.free 1
    refine wpAnyH_ready (rs := [10]) (by kernel_rfl) (by simp) ?_
    refine AllReadyH.cons (o := ⟨_, _, _, _, _, _⟩) rfl (fun K hK => ?_) AllReadyH.nil
    go_simp
    refine hK.out _ _ ((KQ.out.1.setCell ⟨d, 0, none⟩ _ (.inr KQ.out.2)).setCell ⟨d, 1, none⟩ _ (.inr KQ.out.2)) (fun _ => ?_)
    clear hK K
    try simp only [Act.put, List.setIfInBounds_toArray, List.set_cons_zero, List.set_cons_succ]
    refine wpAnyH_take (i := 11) (oi := ⟨_, _, _, _, _, _⟩) (v := ?_) rfl (by kernel_rfl) (by kernel_rfl) (by kernel_rfl) (fun _ _ _ h => h) (Or.inl ⟨by rfl, ?_⟩) ((KQ.out.1.setCell ⟨d, 0, none⟩ (.int .i64 vn) (.inr KQ.out.2)).setCell ⟨d, 1, none⟩ (.slice A0 (envN s nm).length cE) (.inr KQ.out.2)) ?_
    rotate_left
    · intro w' hSw; (go_simp; try with_reducible rfl)
    try simp only [Act.put, List.setIfInBounds_toArray, List.set_cons_zero, List.set_cons_succ]
    refine wpAnyH_done (by kernel_rfl) ?_ _
    clear c0 c1 f0 f1
    have r5 := (RQ.out.set 0 (.int .i64 vn)).set 1 (.slice A0 (envN s nm).length cE)
    have k5 := (KQ.out.1.setCell ⟨d, 0, none⟩ (.int .i64 vn) (.inr KQ.out.2)).setCell ⟨d, 1, none⟩ (.slice A0 (envN s nm).length cE) (.inr KQ.out.2)
    go_upto_region 2 with fail
    generalize (W.setCell ⟨d, 0, none⟩ (.int .i64 vn)).setCell ⟨d, 1, none⟩ (.slice A0 (envN s nm).length cE) = W5 at *
    have K5 := Lib.hid k5
    have RA := Lib.hid (k5.row HQ.out.1 (by simp))
    have HC2 : Hid (∀ V, keepBut (q :: p :: (homes s.kv ++ homes s.vv)) W5 V → V.cell? ⟨d, 0, none⟩ = some (.int .i64 vn) ∧ V.cell? ⟨d, 1, none⟩ = some (.slice A0 (envN s nm).length cE) ∧ V.cell? ⟨w.heap.size, 3, none⟩ = some (.int .i64 vr) ∧ V.cell? ⟨w.heap.size, 36, none⟩ = some ev ∧ V.rangeAt w.heap.size 4 (nameL nm)) := Lib.hid (fun V k => by
      have hfar : ∀ x ∈ q :: p :: (homes s.kv ++ homes s.vv), x < w.heap.size := fun x hx => by
        rcases List.mem_cons.1 hx with rfl | hx
        · exact HQ.out.2.2.2
        · rcases List.mem_cons.1 hx with rfl | hx
          · exact H0.out.1.row.lt
          · rcases List.mem_append.1 hx with hx | hx
            · exact H0.out.1.kown.lt _ hx
            · exact H0.out.1.vown.lt _ hx
      have hdq : d ∉ q :: p :: (homes s.kv ++ homes s.vv) := fun hm => by have := hfar _ hm; have := KQ.out.2; have := HK.out.size; omega
      have hwq : w.heap.size ∉ q :: p :: (homes s.kv ++ homes s.vv) := fun hm => Nat.lt_irrefl _ (hfar _ hm)
      have hr := k.row (K5.out.row HX.out.2.2 (by simp)) hwq
      exact ⟨(k.row r5 hdq).cell 0, (k.row r5 hdq).cell 1, (hr.cell 3).trans HX.out.1, (hr.cell 36).trans HX.out.2.1, hr.range (by rw [← H0.out.2.2.2.2.2, ← HNM.out]; exact rqL_name r ev)⟩)
    have HT5 := Lib.hid (And.intro (HT.out.over K5.out) (HV.out.1.keep K5.out (by simp)))
    clear r5 k5
    have y0 := (HC2.out W5 (keepBut.refl _ _)).1
    have y3 := (HC2.out W5 (keepBut.refl _ _)).2.2.1
    have hw := HB.out
    have he := HC.out
    go_upto_region 4 with fail
    clear y0 y3 hw he
    have KT : keepBut (q :: p :: (homes s.kv ++ homes s.vv)) W5 W5.drew := (keepBut.refl _ W5).drew
    refine wp_region_held_drew (S := fun V => keepBut (q :: p :: (homes s.kv ++ homes s.vv)) W5 V) (by kernel_rfl) KT (fun _ => ?_)
    refine wpAnyH_take (i := 0) (oi := ⟨_, _, _, _, _, _⟩) (v := ?_) rfl (by kernel_rfl) (by kernel_rfl) (by kernel_rfl) (fun _ _ _ h => h) (Or.inl ⟨by rfl, ?_⟩) KT ?_
    rotate_left
    · intro w' hSw; (go_simp; try with_reducible rfl)
    try simp only [Act.put, List.setIfInBounds_toArray, List.set_cons_zero, List.set_cons_succ]
    refine wpAnyH_take (i := 1) (oi := ⟨_, _, _, _, _, _⟩) (v := ?_) rfl (by kernel_rfl) (by kernel_rfl) (by kernel_rfl) (fun _ _ _ h => h) (Or.inl ⟨by rfl, ?_⟩) KT ?_
    rotate_left
    · intro w' hSw; (go_simp; try with_reducible rfl)
    try simp only [Act.put, List.setIfInBounds_toArray, List.set_cons_zero, List.set_cons_succ]
    refine wpAnyH_take (i := 2) (oi := ⟨_, _, _, _, _, _⟩) (v := ?_) rfl (by kernel_rfl) (by kernel_rfl) (by kernel_rfl) (fun _ _ _ h => h) (Or.inl ⟨by rfl, ?_⟩) KT ?_
    rotate_left
    · intro w' hSw; (go_simp; try with_reducible rfl)
    try simp only [Act.put, List.setIfInBounds_toArray, List.set_cons_zero, List.set_cons_succ]
    refine wpAnyH_take (i := 3) (oi := ⟨_, _, _, _, _, _⟩) (v := ?_) rfl (by kernel_rfl) (by kernel_rfl) (by kernel_rfl) (fun _ _ _ h => h) (Or.inl ⟨by rfl, ?_⟩) KT ?_
    rotate_left
    · intro w' hSw; (go_simp; try with_reducible rfl)
    try simp only [Act.put, List.setIfInBounds_toArray, List.set_cons_zero, List.set_cons_succ]
    refine wpAnyH_take (i := 4) (oi := ⟨_, _, _, _, _, _⟩) (v := .agg (nameL nm).toArray) rfl (by kernel_rfl) (by kernel_rfl) (by kernel_rfl) (fun _ _ _ h => h) (yieldsIf_mid 28 (.tmp 51) rfl w.heap.size 4 rfl (nameL nm) _ (fun w' hSw => (HC2.out w' hSw).2.2.2.2) Tryd.underlying28 rfl (by rw [nameL_len, HA.out]; exact infoName) ?_) KT ?_
    · rfl
    try simp only [Act.put, List.setIfInBounds_toArray, List.set_cons_zero, List.set_cons_succ]
    refine wpAnyH_take (i := 5) (oi := ⟨_, _, _, _, _, _⟩) (v := ?_) rfl (by kernel_rfl) (by kernel_rfl) (by kernel_rfl) (fun _ _ _ h => h) (Or.inl ⟨by rfl, ?_⟩) KT ?_
    rotate_left
    · intro w' hSw; (go_simp; try with_reducible rfl)
    try simp only [Act.put, List.setIfInBounds_toArray, List.set_cons_zero, List.set_cons_succ]
    refine wpAnyH_take (i := 6) (oi := ⟨_, _, _, _, _, _⟩) (v := ?_) rfl (by kernel_rfl) (by kernel_rfl) (by kernel_rfl) (fun _ _ _ h => h) (Or.inl ⟨by rfl, ?_⟩) KT ?_
    rotate_left
    · intro w' hSw; have hy := (HC2.out w' hSw).2.2.1; (go_simp; try with_reducible rfl)
    try simp only [Act.put, List.setIfInBounds_toArray, List.set_cons_zero, List.set_cons_succ]
    refine wpAnyH_take (i := 7) (oi := ⟨_, _, _, _, _, _⟩) (v := ?_) rfl (by kernel_rfl) (by kernel_rfl) (by kernel_rfl) (fun _ _ _ h => h) (Or.inl ⟨by rfl, ?_⟩) KT ?_
    rotate_left
    · intro w' hSw; (go_simp; try with_reducible rfl)
    try simp only [Act.put, List.setIfInBounds_toArray, List.set_cons_zero, List.set_cons_succ]
    refine wpAnyH_take (i := 8) (oi := ⟨_, _, _, _, _, _⟩) (v := ?_) rfl (by kernel_rfl) (by kernel_rfl) (by kernel_rfl) (fun _ _ _ h => h) (Or.inl ⟨by rfl, ?_⟩) KT ?_
    rotate_left
    · intro w' hSw; have hy := (HC2.out w' hSw).2.2.2.1; (go_simp; try with_reducible rfl)
    try simp only [Act.put, List.setIfInBounds_toArray, List.set_cons_zero, List.set_cons_succ]
    refine wpAnyH_ready (rs := [9]) (by kernel_rfl) (by simp) ?_
    refine AllReadyH.cons (o := ⟨_, _, _, _, _, _⟩) rfl (fun K hK => ?_) AllReadyH.nil
    go_simp
    refine (cloneB_any F ev r.env _ (((H0.out.2.1.2.keep HK.out (by simp)).keep K5.out (by simp)).keep ((keepBut.refl [] W5).drew) (by simp)) (by have := H0.out.2.2.2.2.1; omega)).mono ?_
    rintro e w7 ⟨v7, G, rfl, n7⟩
    obtain ⟨A7, c7, g7, rfl, _⟩ := id n7.1
    have N7 := Lib.hid n7
    have K7 := Lib.hid (KT.then n7.2.2.2 (by simp))
    have KE := Lib.hid (((keepBut.refl [] W5).drew).then n7.2.2.2 (by simp))
    have R7 := Lib.hid (n7.2.2.2.row (show rowAt W5.drew q 40 _ from RA.out) (by simp))
    clear n7
    go_wp2_with fail
    refine hK.out _ _ K7.out (fun _ => ?_)
    clear hK K
    try simp only [Act.put, List.setIfInBounds_toArray, List.set_cons_zero, List.set_cons_succ]
    refine wpAnyH_take (i := 10) (oi := ⟨_, _, _, _, _, _⟩) (v := ?_) rfl (by kernel_rfl) (by kernel_rfl) (by kernel_rfl) (fun _ _ _ h => h) (Or.inl ⟨by rfl, ?_⟩) K7.out ?_
    rotate_left
    · intro w' hSw; (go_simp; try with_reducible rfl)
    try simp only [Act.put, List.setIfInBounds_toArray, List.set_cons_zero, List.set_cons_succ]
    refine wpAnyH_ready (rs := [11]) (by kernel_rfl) (by simp) ?_
    refine AllReadyH.cons (o := ⟨_, _, _, _, _, _⟩) rfl (fun K hK => ?_) AllReadyH.nil
    go_simp
    refine (putN_yes p s ⟨nm, vr, r.env, .slice A7 r.env.length c7⟩ G HA.out _ (HT5.out.1.over KE.out) HH.out H0.out.2.2.2.2.1 N7.out.1 N7.out.2.1).mono ?_
    rintro e w8 ⟨kv, vv, rfl, n8⟩
    have N8 := Lib.hid n8
    clear n8
    have hqP : q ∉ p :: (homes s.kv ++ homes s.vv) := by
      have h1 := H0.out.1.vown_q H0.out.2.2.1
      have h2 := H0.out.1.row.apart H0.out.2.2.1 (by decide)
      intro hm
      rcases List.mem_cons.1 hm with rfl | hm
      · exact h2 rfl
      · exact h1 hm
    have R8 := Lib.hid (N8.out.2.1.row R7.out hqP)
    go_wp2_with fail
    refine hK.out _ _ (K7.out.then N8.out.2.1 (fun x hx => .inl (List.mem_cons_of_mem _ hx))) (fun _ => ?_)
    clear hK K
    try simp only [Act.put, List.setIfInBounds_toArray, List.set_cons_zero, List.set_cons_succ]
    refine wpAnyH_done (by kernel_rfl) ?_ _
    have y3 : w8.cell? ⟨q, 3, none⟩ = some (.int .i64 a.version) := R8.out.cell 3
    have f3 := R8.out.free 3
    have hwP : w.heap.size ∉ p :: (homes s.kv ++ homes s.vv) := by
      have h1 := H0.out.1.row.lt
      have h2 := H0.out.1.kown.lt
      have h3 := H0.out.1.vown.lt
      intro hm
      rcases List.mem_cons.1 hm with hm | hm
      · omega
      · rcases List.mem_append.1 hm with hm | hm
        · exact Nat.lt_irrefl _ (h2 _ hm)
        · exact Nat.lt_irrefl _ (h3 _ hm)
    have yv : w8.cell? ⟨w.heap.size, 3, none⟩ = some (.int .i64 vr) := ((N8.out.2.1.row (KE.out.row (K5.out.row HX.out.2.2 (by simp)) (by simp)) hwP).cell 3).trans HX.out.1
    go_wp2_with fail
    go_end0
    have rA : rowAt (w8.setCell ⟨q, 3, none⟩ (.int .i64 vr)) q 40 (anL { a with version := vr } nilV).toArray := R8.out.set 3 _
    have bA := kset w8 q 3 (.int .i64 vr)
    have e1 : aPut s.pure r a = (s.pure.put ⟨nm, vr, r.env⟩, { a with version := vr }) := by
      unfold aPut
      rw [ver_pure, hit_pure, HNM.out, HVN.out, HVR.out, HH.out, if_pos ⟨HC.out, .inl rfl⟩]
    have k5 := HK.out.then (K5.out.then KE.out (by simp)) (by simp)
    have k8 : keepBut (p :: (homes s.kv ++ homes s.vv)) w w8 := (k5.more (by simp)).then N8.out.2.1 (fun x hx => .inl hx)
    have s7 := k5.size
    rw [e1]
    refine ⟨rfl, ⟨_, N8.out.1.keepQ R8.out ?_ bA, put_pure s _ kv vv G, rfl, rfl, fun y hy => ?_, fun y hy => ?_⟩, ⟨nilV, [], rA, by show bytesV _ _ _ a.env; rw [HQ.out.2.2.1]; exact bytesV.nil _ _, fun y hy => by simp at hy, fun y hy => by simp at hy⟩, (k8.more (fun x hx => List.mem_cons_of_mem _ hx)).then bA (fun x hx => by simp at hx; subst hx; exact .inl (by simp))⟩
    · exact H0.out.2.2.2.1
    · rcases N8.out.2.2.1 y hy with h1 | h1
      · exact .inl h1
      · exact .inr (by omega)
    · rcases N8.out.2.2.2 y hy with h1 | h1
      · exact .inl h1
      · exact .inr (by omega))
set_option maxHeartbeats 8000000 in
theorem actPut_hn (p q : Nat) (s : TS) (F : List Nat) (r : RQ) (ev : Value) (a : AN) (w : World) (h : isT w p s) (hr : rqV w F r ev) (hq : rowAt w q 40 (anL a nilV).toArray) (hqa : q ∉ homes s.av) (han : a.name.length = 32) (hae : a.env = []) (hb : IntKind.i64.wrap (verN s r.name + 1) = verN s r.name + 1) (hel : r.env.length ≤ 1000)
    (hh : hitN s r.name = true) (he : ¬ r.version = verN s r.name + 1) :
    Calls Tryd.prog 53 #[.pointer (some ⟨p, 0, none⟩), .agg (rqL r ev).toArray, .pointer (some ⟨q, 0, none⟩)] w (actDone p q s (aPut s.pure r a) w) := by
  obtain ⟨X, hX⟩ : ∃ X, rqL r ev = X := ⟨_, rfl⟩
  have hXn : ∀ j v, (nameL r.name)[j]? = some v → X.toArray[4 + j]? = some v := by rw [← hX]; exact rqL_name r ev
  have hX3 : X.toArray[3]? = some (.int .i64 r.version) := by rw [← hX]; rfl
  have hXe : X.toArray[36]? = some ev := by rw [← hX]; exact rqL_env hr.1
  rw [hX]
  obtain ⟨w1, hw1⟩ : ∃ w1, w.alloc (.cells X.toArray 31) = w1 := ⟨_, rfl⟩
  have r1 : rowAt w1 w.heap.size 31 X.toArray := hw1 ▸ rowAt.new _ _ _
  have k1 : keepBut [] w w1 := hw1 ▸ (keepBut.refl [] w).alloc _
  have HW1 := Lib.hid hw1
  have HRG : Hid (∀ W, keepBut [] w1 W → isT W p s ∧ W.rangeAt w.heap.size 4 (nameL r.name)) := Lib.hid (fun W k => ⟨(h.over k1).over k, (k.row r1 (by simp)).range hXn⟩)
  have HT := Lib.hid (h.over k1)
  have HK := Lib.hid k1
  have HA := Lib.hid hr.1
  have HQ := Lib.hid (And.intro (k1.row hq (by simp)) (And.intro han (And.intro hae hq.lt)))
  have HH := Lib.hid hh
  have H0 := Lib.hid (And.intro h (And.intro hr (And.intro hq (And.intro hqa (And.intro hel hX)))))
  have HX := Lib.hid (And.intro hX3 (And.intro hXe r1))
  obtain ⟨hev, hel2⟩ := h.evN r.name
  obtain ⟨A0, cE, g0, hE, _⟩ := id hev
  rw [hE] at hev
  have HE := Lib.hid hE
  have HV := Lib.hid (And.intro (hev.keep k1 (by simp)) hel2)
  have hbr := hr.2
  obtain ⟨AR, cR, gR, hER, _⟩ := id hbr
  have HER := Lib.hid hER
  have HB := Lib.hid hb
  have HC := Lib.hid he
  clear he
  clear hw1 r1 k1 h hE hev hel2 hX hXn hr hq hqa han hae hh hX3 hXe hel hbr hER hb
  generalize hnm : r.name = nm at *
  have HNM := Lib.hid hnm
  clear hnm
  generalize hvr : r.version = vr at *
  have HVR := Lib.hid hvr
  clear hvr
  generalize hvn : verN s nm = vn at *
  have HVN := Lib.hid hvn
  clear hvn
  go_enter Tryd.func53, Tryd.ntmps53
  go_upto_region 1 with (with_reducible refine wpList_box_to _ _ rfl 31 (.tmp 1) rfl _ rfl HW1.out ?_)
  have KS : keepBut [] w1 w1.drew := (keepBut.refl [] w1).drew
  refine wp_region_held_drew (S := fun W => keepBut [] w1 W) (by kernel_rfl) KS (fun _ => ?_)
  refine wpAnyH_take (i := 0) (oi := ⟨_, _, _, _, _, _⟩) (v := ?_) rfl (by kernel_rfl) (by kernel_rfl) (by kernel_rfl) (fun _ _ _ h => h) (Or.inl ⟨by rfl, ?_⟩) KS ?_
  rotate_left
  · intro w' hSw; (go_simp; try with_reducible rfl)
  try simp only [Act.put, List.setIfInBounds_toArray, List.set_cons_zero, List.set_cons_succ]
  refine wpAnyH_take (i := 1) (oi := ⟨_, _, _, _, _, _⟩) (v := ?_) rfl (by kernel_rfl) (by kernel_rfl) (by kernel_rfl) (fun _ _ _ h => h) (Or.inl ⟨by rfl, ?_⟩) KS ?_
  rotate_left
  · intro w' hSw; (go_simp; try with_reducible rfl)
  try simp only [Act.put, List.setIfInBounds_toArray, List.set_cons_zero, List.set_cons_succ]
  refine wpAnyH_take (i := 2) (oi := ⟨_, _, _, _, _, _⟩) (v := ?_) rfl (by kernel_rfl) (by kernel_rfl) (by kernel_rfl) (fun _ _ _ h => h) (Or.inl ⟨by rfl, ?_⟩) KS ?_
  rotate_left
  · intro w' hSw; (go_simp; try with_reducible rfl)
  try simp only [Act.put, List.setIfInBounds_toArray, List.set_cons_zero, List.set_cons_succ]
  refine wpAnyH_take (i := 3) (oi := ⟨_, _, _, _, _, _⟩) (v := ?_) rfl (by kernel_rfl) (by kernel_rfl) (by kernel_rfl) (fun _ _ _ h => h) (Or.inl ⟨by rfl, ?_⟩) KS ?_
  rotate_left
  · intro w' hSw; (go_simp; try with_reducible rfl)
  try simp only [Act.put, List.setIfInBounds_toArray, List.set_cons_zero, List.set_cons_succ]
  refine wpAnyH_take (i := 4) (oi := ⟨_, _, _, _, _, _⟩) (v := .agg (nameL nm).toArray) rfl (by kernel_rfl) (by kernel_rfl) (by kernel_rfl) (fun _ _ _ h => h) (yieldsIf_mid 28 (.tmp 12) rfl w.heap.size 4 rfl (nameL nm) _ (fun w' hSw => (HRG.out w' hSw).2) Tryd.underlying28 rfl (by rw [nameL_len, HA.out]; exact infoName) ?_) KS ?_
  · rfl
  try simp only [Act.put, List.setIfInBounds_toArray, List.set_cons_zero, List.set_cons_succ]
  refine wpAnyH_ready (rs := [5, 9]) (by kernel_rfl) (by simp) ?_
  refine AllReadyH.cons (o := ⟨_, _, _, _, _, _⟩) rfl (fun K hK => ?_) (AllReadyH.cons (o := ⟨_, _, _, _, _, _⟩) rfl (fun K hK => ?_) AllReadyH.nil)
  go_simp
  refine (getN_any p s nm HA.out _ (HRG.out _ KS).1).mono ?_
  rintro e w2 ⟨rfl, kk⟩
  rw [cellsO_eq, HE.out, HH.out, HVN.out]
  have K2 := Lib.hid (KS.then kk (by simp))
  clear kk
  go_wp2_with fail
  refine hK.out _ _ K2.out (fun _ => ?_)
  clear hK K
  try simp only [Act.put, List.setIfInBounds_toArray, List.set_cons_zero, List.set_cons_succ]
  refine wpAnyH_take (i := 6) (oi := ⟨_, _, _, _, _, _⟩) (v := ?_) rfl (by kernel_rfl) (by kernel_rfl) (by kernel_rfl) (fun _ _ _ h => h) (Or.inl ⟨by rfl, ?_⟩) K2.out ?_
  rotate_left
  · intro w' hSw; (go_simp; try with_reducible rfl)
  try simp only [Act.put, List.setIfInBounds_toArray, List.set_cons_zero, List.set_cons_succ]
  refine wpAnyH_take (i := 7) (oi := ⟨_, _, _, _, _, _⟩) (v := ?_) rfl (by kernel_rfl) (by kernel_rfl) (by kernel_rfl) (fun _ _ _ h => h) (Or.inl ⟨by rfl, ?_⟩) K2.out ?_
  rotate_left
  · intro w' hSw; (go_simp; try with_reducible rfl)
  try simp only [Act.put, List.setIfInBounds_toArray, List.set_cons_zero, List.set_cons_succ]
  refine wpAnyH_take (i := 8) (oi := ⟨_, _, _, _, _, _⟩) (v := ?_) rfl (by kernel_rfl) (by kernel_rfl) (by kernel_rfl) (fun _ _ _ h => h) (Or.inl ⟨by rfl, ?_⟩) K2.out ?_
  rotate_left
  · intro w' hSw; (go_simp; try with_reducible rfl)
  try simp only [Act.put, List.setIfInBounds_toArray, List.set_cons_zero, List.set_cons_succ]
  refine wpAnyH_ready (rs := [9]) (by kernel_rfl) (by simp) ?_
  refine AllReadyH.cons (o := ⟨_, _, _, _, _, _⟩) rfl (fun K hK => ?_) AllReadyH.nil
  go_simp
  refine hK.out _ _ (K2.out.alloc (.cells #[.int .i64 0, .slice none 0 0] 72)) (fun _ => ?_)
  clear hK K
  try simp only [Act.put, List.setIfInBounds_toArray, List.set_cons_zero, List.set_cons_succ]
  have RQ := Lib.hid (rowAt.new w2 72 #[.int .i64 0, .slice none 0 0])
  have KQ := Lib.hid (And.intro (K2.out.alloc (.cells #[.int .i64 0, .slice none 0 0] 72)) (show w1.heap.size ≤ w2.heap.size from K2.out.size))
  obtain ⟨d, hd⟩ : ∃ d, w2.heap.size = d := ⟨_, rfl⟩
  rw [hd] at RQ KQ ⊢
  generalize w2.alloc (.cells #[.int .i64 0, .slice none 0 0] 72) = W at *
  clear hd
  rotate_left
  go_simp
  refine hK.out _ _ (KS.alloc (.cells #[.int .i64 0, .slice none 0 0] 72)) (fun _ => ?_)
  clear hK K
  try simp only [Act.put, List.setIfInBounds_toArray, List.set_cons_zero, List.set_cons_succ]
  refine wpAnyH_ready (rs := [5]) (by kernel_rfl) (by simp) ?_
  refine AllReadyH.cons (o := ⟨_, _, _, _, _, _⟩) rfl (fun K hK => ?_) AllReadyH.nil
  go_simp
  refine (getN_any p s nm HA.out _ (HRG.out _ (KS.alloc (.cells #[.int .i64 0, .slice none 0 0] 72))).1).mono ?_
  rintro e w2 ⟨rfl, kk⟩
  rw [cellsO_eq, HE.out, HH.out, HVN.out]
  have K2 := Lib.hid ((KS.alloc (.cells #[.int .i64 0, .slice none 0 0] 72)).then kk (by simp))
  have RQ := Lib.hid (kk.row (rowAt.new w1.drew 72 #[.int .i64 0, .slice none 0 0]) (by simp))
  clear kk
  go_wp2_with fail
  refine hK.out _ _ K2.out (fun _ => ?_)
  clear hK K
  try simp only [Act.put, List.setIfInBounds_toArray, List.set_cons_zero, List.set_cons_succ]
  have KQ := Lib.hid (And.intro K2.out (show w1.heap.size ≤ w1.drew.heap.size from Nat.le_refl _))
  refine wpAnyH_take (i := 6) (oi := ⟨_, _, _, _, _, _⟩) (v := ?_) rfl (by kernel_rfl) (by kernel_rfl) (by kernel_rfl) (fun _ _ _ h => h) (Or.inl ⟨by rfl, ?_⟩) K2.out ?_
  rotate_left
  · intro w' hSw; (go_simp; try with_reducible rfl)
  try simp only [Act.put, List.setIfInBounds_toArray, List.set_cons_zero, List.set_cons_succ]
  refine wpAnyH_take (i := 7) (oi := ⟨_, _, _, _, _, _⟩) (v := ?_) rfl (by kernel_rfl) (by kernel_rfl) (by kernel_rfl) (fun _ _ _ h => h) (Or.inl ⟨by rfl, ?_⟩) K2.out ?_
  rotate_left
  · intro w' hSw; (go_simp; try with_reducible rfl)
  try simp only [Act.put, List.setIfInBounds_toArray, List.set_cons_zero, List.set_cons_succ]
  refine wpAnyH_take (i := 8) (oi := ⟨_, _, _, _, _, _⟩) (v := ?_) rfl (by kernel_rfl) (by kernel_rfl) (by kernel_rfl) (fun _ _ _ h => h) (Or.inl ⟨by rfl, ?_⟩) K2.out ?_
  rotate_left
  · intro w' hSw; (go_simp; try with_reducible rfl)
  try simp only [Act.put, List.setIfInBounds_toArray, List.set_cons_zero, List.set_cons_succ]
  obtain ⟨d, hd⟩ : ∃ d, w1.drew.heap.size = d := ⟨_, rfl⟩
  rw [hd] at RQ KQ
  change w1.heap.size = d at hd
  rw [hd]
  clear hd
  generalize w2 = W at *
  all_goals (
    have c0 := RQ.out.cell 0
    have c1 := RQ.out.cell 1
    have f0 := RQ.out.free 0
    have f1 := RQ.out.free 1
    refine wpAnyH_ready (rs := [10]) (by kernel_rfl) (by simp) ?_
    refine AllReadyH.cons (o := ⟨_, _, _, _, _, _⟩) rfl (fun K hK => ?_) AllReadyH.nil
    go_simp
    refine hK.out _ _ ((KQ.out.1.setCell ⟨d, 0, none⟩ _ (.inr KQ.out.2)).setCell ⟨d, 1, none⟩ _ (.inr KQ.out.2)) (fun _ => ?_)
    clear hK K
    try simp only [Act.put, List.setIfInBounds_toArray, List.set_cons_zero, List.set_cons_succ]
    refine wpAnyH_take (i := 11) (oi := ⟨_, _, _, _, _, _⟩) (v := ?_) rfl (by kernel_rfl) (by kernel_rfl) (by kernel_rfl) (fun _ _ _ h => h) (Or.inl ⟨by rfl, ?_⟩) ((KQ.out.1.setCell ⟨d, 0, none⟩ (.int .i64 vn) (.inr KQ.out.2)).setCell ⟨d, 1, none⟩ (.slice A0 (envN s nm).length cE) (.inr KQ.out.2)) ?_
    rotate_left
    · intro w' hSw; (go_simp; try with_reducible rfl)
    try simp only [Act.put, List.setIfInBounds_toArray, List.set_cons_zero, List.set_cons_succ]
    refine wpAnyH_done (by kernel_rfl) ?_ _
    clear c0 c1 f0 f1
    have r5 := (RQ.out.set 0 (.int .i64 vn)).set 1 (.slice A0 (envN s nm).length cE)
    have k5 := (KQ.out.1.setCell ⟨d, 0, none⟩ (.int .i64 vn) (.inr KQ.out.2)).setCell ⟨d, 1, none⟩ (.slice A0 (envN s nm).length cE) (.inr KQ.out.2)
    go_upto_region 2 with fail
    generalize (W.setCell ⟨d, 0, none⟩ (.int .i64 vn)).setCell ⟨d, 1, none⟩ (.slice A0 (envN s nm).length cE) = W5 at *
    have K5 := Lib.hid k5
    have RA := Lib.hid (k5.row HQ.out.1 (by simp))
    have HC2 : Hid (∀ V, keepBut (q :: p :: (homes s.kv ++ homes s.vv)) W5 V → V.cell? ⟨d, 0, none⟩ = some (.int .i64 vn) ∧ V.cell? ⟨d, 1, none⟩ = some (.slice A0 (envN s nm).length cE) ∧ V.cell? ⟨w.heap.size, 3, none⟩ = some (.int .i64 vr) ∧ V.cell? ⟨w.heap.size, 36, none⟩ = some ev ∧ V.rangeAt w.heap.size 4 (nameL nm)) := Lib.hid (fun V k => by
      have hfar : ∀ x ∈ q :: p :: (homes s.kv ++ homes s.vv), x < w.heap.size := fun x hx => by
        rcases List.mem_cons.1 hx with rfl | hx
        · exact HQ.out.2.2.2
        · rcases List.mem_cons.1 hx with rfl | hx
          · exact H0.out.1.row.lt
          · rcases List.mem_append.1 hx with hx | hx
            · exact H0.out.1.kown.lt _ hx
            · exact H0.out.1.vown.lt _ hx
      have hdq : d ∉ q :: p :: (homes s.kv ++ homes s.vv) := fun hm => by have := hfar _ hm; have := KQ.out.2; have := HK.out.size; omega
      have hwq : w.heap.size ∉ q :: p :: (homes s.kv ++ homes s.vv) := fun hm => Nat.lt_irrefl _ (hfar _ hm)
      have hr := k.row (K5.out.row HX.out.2.2 (by simp)) hwq
      exact ⟨(k.row r5 hdq).cell 0, (k.row r5 hdq).cell 1, (hr.cell 3).trans HX.out.1, (hr.cell 36).trans HX.out.2.1, hr.range (by rw [← H0.out.2.2.2.2.2, ← HNM.out]; exact rqL_name r ev)⟩)
    have HT5 := Lib.hid (And.intro (HT.out.over K5.out) (HV.out.1.keep K5.out (by simp)))
    clear r5 k5
    have y0 := (HC2.out W5 (keepBut.refl _ _)).1
    have y3 := (HC2.out W5 (keepBut.refl _ _)).2.2.1
    have hw := HB.out
    have he := HC.out
    go_upto_region 3 with fail
    clear y0 y3 hw he
    have KT : keepBut [q] W5 W5.drew := (keepBut.refl [q] W5).drew
    refine wp_region_held_drew (S := fun V => keepBut [q] W5 V) (by kernel_rfl) KT (fun _ => ?_)
    refine wpAnyH_take (i := 0) (oi := ⟨_, _, _, _, _, _⟩) (v := ?_) rfl (by kernel_rfl) (by kernel_rfl) (by kernel_rfl) (fun _ _ _ h => h) (Or.inl ⟨by rfl, ?_⟩) KT ?_
    rotate_left
    · intro w' hSw; (go_simp; try with_reducible rfl)
    try simp only [Act.put, List.setIfInBounds_toArray, List.set_cons_zero, List.set_cons_succ]
    refine wpAnyH_take (i := 1) (oi := ⟨_, _, _, _, _, _⟩) (v := ?_) rfl (by kernel_rfl) (by kernel_rfl) (by kernel_rfl) (fun _ _ _ h => h) (Or.inl ⟨by rfl, ?_⟩) KT ?_
    rotate_left
    · intro w' hSw; (go_simp; try with_reducible rfl)
    try simp only [Act.put, List.setIfInBounds_toArray, List.set_cons_zero, List.set_cons_succ]
    refine wpAnyH_take (i := 2) (oi := ⟨_, _, _, _, _, _⟩) (v := ?_) rfl (by kernel_rfl) (by kernel_rfl) (by kernel_rfl) (fun _ _ _ h => h) (Or.inl ⟨by rfl, ?_⟩) KT ?_
    rotate_left
    · intro w' hSw; (go_simp; try with_reducible rfl)
    try simp only [Act.put, List.setIfInBounds_toArray, List.set_cons_zero, List.set_cons_succ]
    refine wpAnyH_take (i := 3) (oi := ⟨_, _, _, _, _, _⟩) (v := ?_) rfl (by kernel_rfl) (by kernel_rfl) (by kernel_rfl) (fun _ _ _ h => h) (Or.inl ⟨by rfl, ?_⟩) KT ?_
    rotate_left
    · intro w' hSw; (go_simp; try with_reducible rfl)
    try simp only [Act.put, List.setIfInBounds_toArray, List.set_cons_zero, List.set_cons_succ]
    refine wpAnyH_take (i := 4) (oi := ⟨_, _, _, _, _, _⟩) (v := ?_) rfl (by kernel_rfl) (by kernel_rfl) (by kernel_rfl) (fun _ _ _ h => h) (Or.inl ⟨by rfl, ?_⟩) KT ?_
    rotate_left
    · intro w' hSw; have hy := (HC2.out w' (hSw.more (by simp))).1; (go_simp; try with_reducible rfl)
    try simp only [Act.put, List.setIfInBounds_toArray, List.set_cons_zero, List.set_cons_succ]
    refine wpAnyH_take (i := 5) (oi := ⟨_, _, _, _, _, _⟩) (v := ?_) rfl (by kernel_rfl) (by kernel_rfl) (by kernel_rfl) (fun _ _ _ h => h) (Or.inl ⟨by rfl, ?_⟩) KT ?_
    rotate_left
    · intro w' hSw; (go_simp; try with_reducible rfl)
    try simp only [Act.put, List.setIfInBounds_toArray, List.set_cons_zero, List.set_cons_succ]
    refine wpAnyH_take (i := 6) (oi := ⟨_, _, _, _, _, _⟩) (v := ?_) rfl (by kernel_rfl) (by kernel_rfl) (by kernel_rfl) (fun _ _ _ h => h) (Or.inl ⟨by rfl, ?_⟩) KT ?_
    rotate_left
    · intro w' hSw; have hy := (HC2.out w' (hSw.more (by simp))).2.1; (go_simp; try with_reducible rfl)
    try simp only [Act.put, List.setIfInBounds_toArray, List.set_cons_zero, List.set_cons_succ]
    refine wpAnyH_ready (rs := [7]) (by kernel_rfl) (by simp) ?_
    refine AllReadyH.cons (o := ⟨_, _, _, _, _, _⟩) rfl (fun K hK => ?_) AllReadyH.nil
    go_simp
    refine (cloneB_any s.F _ (envN s nm) _ (HT5.out.2.keep ((keepBut.refl [] W5).drew) (by simp)) (by have := HV.out.2; omega)).mono ?_
    rintro e w7 ⟨v7, G, rfl, n7⟩
    obtain ⟨A7, c7, g7, rfl, _⟩ := id n7.1
    have N7 := Lib.hid n7
    have K7 := Lib.hid (KT.then n7.2.2.2 (by simp))
    have R7 := Lib.hid (n7.2.2.2.row (show rowAt W5.drew q 40 _ from RA.out) (by simp))
    clear n7
    go_wp2_with fail
    refine hK.out _ _ K7.out (fun _ => ?_)
    clear hK K
    try simp only [Act.put, List.setIfInBounds_toArray, List.set_cons_zero, List.set_cons_succ]
    refine wpAnyH_take (i := 8) (oi := ⟨_, _, _, _, _, _⟩) (v := ?_) rfl (by kernel_rfl) (by kernel_rfl) (by kernel_rfl) (fun _ _ _ h => h) (Or.inl ⟨by rfl, ?_⟩) K7.out ?_
    rotate_left
    · intro w' hSw; (go_simp; try with_reducible rfl)
    try simp only [Act.put, List.setIfInBounds_toArray, List.set_cons_zero, List.set_cons_succ]
    refine wpAnyH_take (i := 9) (oi := ⟨_, _, _, _, _, _⟩) (v := ?_) rfl (by kernel_rfl) (by kernel_rfl) (by kernel_rfl) (fun _ _ _ h => h) (Or.inl ⟨by rfl, ?_⟩) K7.out ?_
    rotate_left
    · intro w' hSw; (go_simp; try with_reducible rfl)
    try simp only [Act.put, List.setIfInBounds_toArray, List.set_cons_zero, List.set_cons_succ]
    have y2 : w7.cell? ⟨q, 2, none⟩ = some (.int .i64 a.code) := R7.out.cell 2
    have f2 := R7.out.free 2
    refine wpAnyH_ready (rs := [10]) (by kernel_rfl) (by simp) ?_
    refine AllReadyH.cons (o := ⟨_, _, _, _, _, _⟩) rfl (fun K hK => ?_) AllReadyH.nil
    go_simp
    refine hK.out _ _ (K7.out.setCell ⟨q, 2, none⟩ _ (.inl (by simp))) (fun _ => ?_)
    clear hK K
    try simp only [Act.put, List.setIfInBounds_toArray, List.set_cons_zero, List.set_cons_succ]
    have r8 : rowAt (w7.setCell ⟨q, 2, none⟩ (.int .i64 2)) q 40 (anL { a with code := 2 } nilV).toArray := R7.out.set 2 _
    have k8 : keepBut [q] W5 (w7.setCell ⟨q, 2, none⟩ (.int .i64 2)) := K7.out.setCell _ _ (.inl (by simp))
    have b8 := kset w7 q 2 (.int .i64 2)
    clear y2 f2
    generalize w7.setCell ⟨q, 2, none⟩ (.int .i64 2) = w8 at *
    have y3 : w8.cell? ⟨q, 3, none⟩ = some (.int .i64 a.version) := r8.cell 3
    have f3 := r8.free 3
    refine wpAnyH_take (i := 11) (oi := ⟨_, _, _, _, _, _⟩) (v := ?_) rfl (by kernel_rfl) (by kernel_rfl) (by kernel_rfl) (fun _ _ _ h => h) (Or.inl ⟨by rfl, ?_⟩) k8 ?_
    rotate_left
    · intro w' hSw; (go_simp; try with_reducible rfl)
    try simp only [Act.put, List.setIfInBounds_toArray, List.set_cons_zero, List.set_cons_succ]
    refine wpAnyH_take (i := 12) (oi := ⟨_, _, _, _, _, _⟩) (v := ?_) rfl (by kernel_rfl) (by kernel_rfl) (by kernel_rfl) (fun _ _ _ h => h) (Or.inl ⟨by rfl, ?_⟩) k8 ?_
    rotate_left
    · intro w' hSw; (go_simp; try with_reducible rfl)
    try simp only [Act.put, List.setIfInBounds_toArray, List.set_cons_zero, List.set_cons_succ]
    refine wpAnyH_ready (rs := [13]) (by kernel_rfl) (by simp) ?_
    refine AllReadyH.cons (o := ⟨_, _, _, _, _, _⟩) rfl (fun K hK => ?_) AllReadyH.nil
    go_simp
    refine hK.out _ _ (k8.setCell ⟨q, 3, none⟩ _ (.inl (by simp))) (fun _ => ?_)
    clear hK K
    try simp only [Act.put, List.setIfInBounds_toArray, List.set_cons_zero, List.set_cons_succ]
    have r9 : rowAt (w8.setCell ⟨q, 3, none⟩ (.int .i64 vn)) q 40 (anL { a with code := 2, version := vn } nilV).toArray := r8.set 3 _
    have k9 : keepBut [q] W5 (w8.setCell ⟨q, 3, none⟩ (.int .i64 vn)) := k8.setCell _ _ (.inl (by simp))
    have b9 := b8.then (kset w8 q 3 (.int .i64 vn)) (fun x hx => .inl hx)
    clear y3 f3 b8 r8 k8
    generalize w8.setCell ⟨q, 3, none⟩ (.int .i64 vn) = w9 at *
    have y37 : w9.cell? ⟨q, 37, none⟩ = some (.slice none 0 0) := (r9.cell 37).trans (anL_env HQ.out.2.1)
    have f37 := r9.free 37
    refine wpAnyH_take (i := 14) (oi := ⟨_, _, _, _, _, _⟩) (v := ?_) rfl (by kernel_rfl) (by kernel_rfl) (by kernel_rfl) (fun _ _ _ h => h) (Or.inl ⟨by rfl, ?_⟩) k9 ?_
    rotate_left
    · intro w' hSw; (go_simp; try with_reducible rfl)
    try simp only [Act.put, List.setIfInBounds_toArray, List.set_cons_zero, List.set_cons_succ]
    refine wpAnyH_take (i := 15) (oi := ⟨_, _, _, _, _, _⟩) (v := ?_) rfl (by kernel_rfl) (by kernel_rfl) (by kernel_rfl) (fun _ _ _ h => h) (Or.inl ⟨by rfl, ?_⟩) k9 ?_
    rotate_left
    · intro w' hSw; (go_simp; try with_reducible rfl)
    try simp only [Act.put, List.setIfInBounds_toArray, List.set_cons_zero, List.set_cons_succ]
    refine wpAnyH_ready (rs := [16]) (by kernel_rfl) (by simp) ?_
    refine AllReadyH.cons (o := ⟨_, _, _, _, _, _⟩) rfl (fun K hK => ?_) AllReadyH.nil
    go_simp
    refine hK.out _ _ (k9.setCell ⟨q, 37, none⟩ _ (.inl (by simp))) (fun _ => ?_)
    clear hK K
    try simp only [Act.put, List.setIfInBounds_toArray, List.set_cons_zero, List.set_cons_succ]
    refine wpAnyH_done (by kernel_rfl) ?_ _
    go_wp2_with fail
    go_end0
    have rA := r9.set 37 (.slice A7 (envN s nm).length c7)
    rw [anL_set (a := { a with code := 2, version := vn }) HQ.out.2.1] at rA
    have bA := kset w9 q 37 (.slice A7 (envN s nm).length c7)
    have e1 : aPut s.pure r a = (s.pure, { a with code := 2, version := vn, env := envN s nm }) := by
      unfold aPut
      rw [ver_pure, hit_pure, env_pure, HNM.out, HVN.out, HVR.out, HH.out, if_neg (by
        rintro ⟨h1, h2⟩
        exact HC.out h1)]
    have hGk : ∀ y ∈ G, y ∉ [q] := fun y hy => by have h1 := (N7.out.2.2.1 y hy).1; have h2 := HQ.out.2.2.2; have h3 : W5.drew.heap.size = W5.heap.size := rfl; have s5 := (HK.out.then K5.out (by simp)).size; simp; omega
    have b79 := b9.then bA (fun x hx => .inl hx)
    have s5 := (HK.out.then K5.out (by simp)).size
    have kk : keepBut [q] w (w9.setCell ⟨q, 37, none⟩ (.slice A7 (envN s nm).length c7)) := (((HK.out.then K5.out (by simp)).more (by simp)).then k9 (fun x hx => .inl hx)).then bA (fun x hx => .inl hx)
    rw [e1]
    refine ⟨rfl, ⟨s, H0.out.1.keepQ H0.out.2.2.1 H0.out.2.2.2.1 kk, rfl, rfl, rfl, fun y hy => .inl hy, fun y hy => .inl hy⟩, ⟨.slice A7 (envN s nm).length c7, G, rA, N7.out.1.keep b79 hGk, fun y hy => ?_, fun y hy => ⟨by have h1 := (N7.out.2.2.1 y hy).1; have h3 : W5.drew.heap.size = W5.heap.size := rfl; omega, by have h1 := (N7.out.2.2.1 y hy).2; have h2 := b79.size; omega⟩⟩, kk.more (by simp)⟩
    obtain ⟨cs, hc⟩ := N7.out.2.1 y hy
    exact ⟨cs, b79.row hc (hGk y hy)⟩)
set_option maxHeartbeats 8000000 in
theorem actPut_mer (p q : Nat) (s : TS) (F : List Nat) (r : RQ) (ev : Value) (a : AN) (w : World) (h : isT w p s) (hr : rqV w F r ev) (hq : rowAt w q 40 (anL a nilV).toArray) (hqa : q ∉ homes s.av) (han : a.name.length = 32) (hae : a.env = []) (hb : IntKind.i64.wrap (verN s r.name + 1) = verN s r.name + 1) (hel : r.env.length ≤ 1000)
    (hh : hitN s r.name = false) (he : r.version = verN s r.name + 1) (hn : s.objs.length < 64) :
    Calls Tryd.prog 53 #[.pointer (some ⟨p, 0, none⟩), .agg (rqL r ev).toArray, .pointer (some ⟨q, 0, none⟩)] w (actDone p q s (aPut s.pure r a) w) := by
  obtain ⟨X, hX⟩ : ∃ X, rqL r ev = X := ⟨_, rfl⟩
  have hXn : ∀ j v, (nameL r.name)[j]? = some v → X.toArray[4 + j]? = some v := by rw [← hX]; exact rqL_name r ev
  have hX3 : X.toArray[3]? = some (.int .i64 r.version) := by rw [← hX]; rfl
  have hXe : X.toArray[36]? = some ev := by rw [← hX]; exact rqL_env hr.1
  rw [hX]
  obtain ⟨w1, hw1⟩ : ∃ w1, w.alloc (.cells X.toArray 31) = w1 := ⟨_, rfl⟩
  have r1 : rowAt w1 w.heap.size 31 X.toArray := hw1 ▸ rowAt.new _ _ _
  have k1 : keepBut [] w w1 := hw1 ▸ (keepBut.refl [] w).alloc _
  have HW1 := Lib.hid hw1
  have HRG : Hid (∀ W, keepBut [] w1 W → isT W p s ∧ W.rangeAt w.heap.size 4 (nameL r.name)) := Lib.hid (fun W k => ⟨(h.over k1).over k, (k.row r1 (by simp)).range hXn⟩)
  have HT := Lib.hid (h.over k1)
  have HK := Lib.hid k1
  have HA := Lib.hid hr.1
  have HQ := Lib.hid (And.intro (k1.row hq (by simp)) (And.intro han (And.intro hae hq.lt)))
  have HH := Lib.hid hh
  have H0 := Lib.hid (And.intro h (And.intro hr (And.intro hq (And.intro hqa (And.intro hel hX)))))
  have HX := Lib.hid (And.intro hX3 (And.intro hXe r1))
  obtain ⟨hev, hel2⟩ := h.evN r.name
  obtain ⟨A0, cE, g0, hE, _⟩ := id hev
  rw [hE] at hev
  have HE := Lib.hid hE
  have HV := Lib.hid (And.intro (hev.keep k1 (by simp)) hel2)
  have hbr := hr.2
  obtain ⟨AR, cR, gR, hER, _⟩ := id hbr
  have HER := Lib.hid hER
  have HB := Lib.hid hb
  have HC := Lib.hid he
  clear he
  have HN := Lib.hid hn
  clear hn
  clear hw1 r1 k1 h hE hev hel2 hX hXn hr hq hqa han hae hh hX3 hXe hel hbr hER hb
  generalize hnm : r.name = nm at *
  have HNM := Lib.hid hnm
  clear hnm
  generalize hvr : r.version = vr at *
  have HVR := Lib.hid hvr
  clear hvr
  generalize hvn : verN s nm = vn at *
  have HVN := Lib.hid hvn
  clear hvn
  go_enter Tryd.func53, Tryd.ntmps53
  go_upto_region 1 with (with_reducible refine wpList_box_to _ _ rfl 31 (.tmp 1) rfl _ rfl HW1.out ?_)
  have KS : keepBut [] w1 w1.drew := (keepBut.refl [] w1).drew
  refine wp_region_held_drew (S := fun W => keepBut [] w1 W) (by kernel_rfl) KS (fun _ => ?_)
  refine wpAnyH_take (i := 0) (oi := ⟨_, _, _, _, _, _⟩) (v := ?_) rfl (by kernel_rfl) (by kernel_rfl) (by kernel_rfl) (fun _ _ _ h => h) (Or.inl ⟨by rfl, ?_⟩) KS ?_
  rotate_left
  · intro w' hSw; (go_simp; try with_reducible rfl)
  try simp only [Act.put, List.setIfInBounds_toArray, List.set_cons_zero, List.set_cons_succ]
  refine wpAnyH_take (i := 1) (oi := ⟨_, _, _, _, _, _⟩) (v := ?_) rfl (by kernel_rfl) (by kernel_rfl) (by kernel_rfl) (fun _ _ _ h => h) (Or.inl ⟨by rfl, ?_⟩) KS ?_
  rotate_left
  · intro w' hSw; (go_simp; try with_reducible rfl)
  try simp only [Act.put, List.setIfInBounds_toArray, List.set_cons_zero, List.set_cons_succ]
  refine wpAnyH_take (i := 2) (oi := ⟨_, _, _, _, _, _⟩) (v := ?_) rfl (by kernel_rfl) (by kernel_rfl) (by kernel_rfl) (fun _ _ _ h => h) (Or.inl ⟨by rfl, ?_⟩) KS ?_
  rotate_left
  · intro w' hSw; (go_simp; try with_reducible rfl)
  try simp only [Act.put, List.setIfInBounds_toArray, List.set_cons_zero, List.set_cons_succ]
  refine wpAnyH_take (i := 3) (oi := ⟨_, _, _, _, _, _⟩) (v := ?_) rfl (by kernel_rfl) (by kernel_rfl) (by kernel_rfl) (fun _ _ _ h => h) (Or.inl ⟨by rfl, ?_⟩) KS ?_
  rotate_left
  · intro w' hSw; (go_simp; try with_reducible rfl)
  try simp only [Act.put, List.setIfInBounds_toArray, List.set_cons_zero, List.set_cons_succ]
  refine wpAnyH_take (i := 4) (oi := ⟨_, _, _, _, _, _⟩) (v := .agg (nameL nm).toArray) rfl (by kernel_rfl) (by kernel_rfl) (by kernel_rfl) (fun _ _ _ h => h) (yieldsIf_mid 28 (.tmp 12) rfl w.heap.size 4 rfl (nameL nm) _ (fun w' hSw => (HRG.out w' hSw).2) Tryd.underlying28 rfl (by rw [nameL_len, HA.out]; exact infoName) ?_) KS ?_
  · rfl
  try simp only [Act.put, List.setIfInBounds_toArray, List.set_cons_zero, List.set_cons_succ]
  refine wpAnyH_ready (rs := [5, 9]) (by kernel_rfl) (by simp) ?_
  refine AllReadyH.cons (o := ⟨_, _, _, _, _, _⟩) rfl (fun K hK => ?_) (AllReadyH.cons (o := ⟨_, _, _, _, _, _⟩) rfl (fun K hK => ?_) AllReadyH.nil)
  go_simp
  refine (getN_any p s nm HA.out _ (HRG.out _ KS).1).mono ?_
  rintro e w2 ⟨rfl, kk⟩
  rw [cellsO_eq, HE.out, HH.out, HVN.out]
  have K2 := Lib.hid (KS.then kk (by simp))
  clear kk
  go_wp2_with fail
  refine hK.out _ _ K2.out (fun _ => ?_)
  clear hK K
  try simp only [Act.put, List.setIfInBounds_toArray, List.set_cons_zero, List.set_cons_succ]
  refine wpAnyH_take (i := 6) (oi := ⟨_, _, _, _, _, _⟩) (v := ?_) rfl (by kernel_rfl) (by kernel_rfl) (by kernel_rfl) (fun _ _ _ h => h) (Or.inl ⟨by rfl, ?_⟩) K2.out ?_
  rotate_left
  · intro w' hSw; (go_simp; try with_reducible rfl)
  try simp only [Act.put, List.setIfInBounds_toArray, List.set_cons_zero, List.set_cons_succ]
  refine wpAnyH_take (i := 7) (oi := ⟨_, _, _, _, _, _⟩) (v := ?_) rfl (by kernel_rfl) (by kernel_rfl) (by kernel_rfl) (fun _ _ _ h => h) (Or.inl ⟨by rfl, ?_⟩) K2.out ?_
  rotate_left
  · intro w' hSw; (go_simp; try with_reducible rfl)
  try simp only [Act.put, List.setIfInBounds_toArray, List.set_cons_zero, List.set_cons_succ]
  refine wpAnyH_take (i := 8) (oi := ⟨_, _, _, _, _, _⟩) (v := ?_) rfl (by kernel_rfl) (by kernel_rfl) (by kernel_rfl) (fun _ _ _ h => h) (Or.inl ⟨by rfl, ?_⟩) K2.out ?_
  rotate_left
  · intro w' hSw; (go_simp; try with_reducible rfl)
  try simp only [Act.put, List.setIfInBounds_toArray, List.set_cons_zero, List.set_cons_succ]
  refine wpAnyH_ready (rs := [9]) (by kernel_rfl) (by simp) ?_
  refine AllReadyH.cons (o := ⟨_, _, _, _, _, _⟩) rfl (fun K hK => ?_) AllReadyH.nil
  go_simp
  refine hK.out _ _ (K2.out.alloc (.cells #[.int .i64 0, .slice none 0 0] 72)) (fun _ => ?_)
  clear hK K
  try simp only [Act.put, List.setIfInBounds_toArray, List.set_cons_zero, List.set_cons_succ]
  have RQ := Lib.hid (rowAt.new w2 72 #[.int .i64 0, .slice none 0 0])
  have KQ := Lib.hid (And.intro (K2.out.alloc (.cells #[.int .i64 0, .slice none 0 0] 72)) (show w1.heap.size ≤ w2.heap.size from K2.out.size))
  obtain ⟨d, hd⟩ : ∃ d, w2.heap.size = d := ⟨_, rfl⟩
  rw [hd] at RQ KQ ⊢
  generalize w2.alloc (.cells #[.int .i64 0, .slice none 0 0] 72) = W at *
  clear hd
  rotate_left
  go_simp
  refine hK.out _ _ (KS.alloc (.cells #[.int .i64 0, .slice none 0 0] 72)) (fun _ => ?_)
  clear hK K
  try simp only [Act.put, List.setIfInBounds_toArray, List.set_cons_zero, List.set_cons_succ]
  refine wpAnyH_ready (rs := [5]) (by kernel_rfl) (by simp) ?_
  refine AllReadyH.cons (o := ⟨_, _, _, _, _, _⟩) rfl (fun K hK => ?_) AllReadyH.nil
  go_simp
  refine (getN_any p s nm HA.out _ (HRG.out _ (KS.alloc (.cells #[.int .i64 0, .slice none 0 0] 72))).1).mono ?_
  rintro e w2 ⟨rfl, kk⟩
  rw [cellsO_eq, HE.out, HH.out, HVN.out]
  have K2 := Lib.hid ((KS.alloc (.cells #[.int .i64 0, .slice none 0 0] 72)).then kk (by simp))
  have RQ := Lib.hid (kk.row (rowAt.new w1.drew 72 #[.int .i64 0, .slice none 0 0]) (by simp))
  clear kk
  go_wp2_with fail
  refine hK.out _ _ K2.out (fun _ => ?_)
  clear hK K
  try simp only [Act.put, List.setIfInBounds_toArray, List.set_cons_zero, List.set_cons_succ]
  have KQ := Lib.hid (And.intro K2.out (show w1.heap.size ≤ w1.drew.heap.size from Nat.le_refl _))
  refine wpAnyH_take (i := 6) (oi := ⟨_, _, _, _, _, _⟩) (v := ?_) rfl (by kernel_rfl) (by kernel_rfl) (by kernel_rfl) (fun _ _ _ h => h) (Or.inl ⟨by rfl, ?_⟩) K2.out ?_
  rotate_left
  · intro w' hSw; (go_simp; try with_reducible rfl)
  try simp only [Act.put, List.setIfInBounds_toArray, List.set_cons_zero, List.set_cons_succ]
  refine wpAnyH_take (i := 7) (oi := ⟨_, _, _, _, _, _⟩) (v := ?_) rfl (by kernel_rfl) (by kernel_rfl) (by kernel_rfl) (fun _ _ _ h => h) (Or.inl ⟨by rfl, ?_⟩) K2.out ?_
  rotate_left
  · intro w' hSw; (go_simp; try with_reducible rfl)
  try simp only [Act.put, List.setIfInBounds_toArray, List.set_cons_zero, List.set_cons_succ]
  refine wpAnyH_take (i := 8) (oi := ⟨_, _, _, _, _, _⟩) (v := ?_) rfl (by kernel_rfl) (by kernel_rfl) (by kernel_rfl) (fun _ _ _ h => h) (Or.inl ⟨by rfl, ?_⟩) K2.out ?_
  rotate_left
  · intro w' hSw; (go_simp; try with_reducible rfl)
  try simp only [Act.put, List.setIfInBounds_toArray, List.set_cons_zero, List.set_cons_succ]
  obtain ⟨d, hd⟩ : ∃ d, w1.drew.heap.size = d := ⟨_, rfl⟩
  rw [hd] at RQ KQ
  change w1.heap.size = d at hd
  rw [hd]
  clear hd
  generalize w2 = W at *
  all_goals (
    have c0 := RQ.out.cell 0
    have c1 := RQ.out.cell 1
    have f0 := RQ.out.free 0
    have f1 := RQ.out.free 1
    refine wpAnyH_ready (rs := [10]) (by kernel_rfl) (by simp) ?_
    refine AllReadyH.cons (o := ⟨_, _, _, _, _, _⟩) rfl (fun K hK => ?_) AllReadyH.nil
    go_simp
    refine hK.out _ _ ((KQ.out.1.setCell ⟨d, 0, none⟩ _ (.inr KQ.out.2)).setCell ⟨d, 1, none⟩ _ (.inr KQ.out.2)) (fun _ => ?_)
    clear hK K
    try simp only [Act.put, List.setIfInBounds_toArray, List.set_cons_zero, List.set_cons_succ]
    refine wpAnyH_take (i := 11) (oi := ⟨_, _, _, _, _, _⟩) (v := ?_) rfl (by kernel_rfl) (by kernel_rfl) (by kernel_rfl) (fun _ _ _ h => h) (Or.inl ⟨by rfl, ?_⟩) ((KQ.out.1.setCell ⟨d, 0, none⟩ (.int .i64 vn) (.inr KQ.out.2)).setCell ⟨d, 1, none⟩ (.slice A0 (envN s nm).length cE) (.inr KQ.out.2)) ?_
    rotate_left
    · intro w' hSw; (go_simp; try with_reducible rfl)
    try simp only [Act.put, List.setIfInBounds_toArray, List.set_cons_zero, List.set_cons_succ]
    refine wpAnyH_done (by kernel_rfl) ?_ _
    clear c0 c1 f0 f1
    have r5 := (RQ.out.set 0 (.int .i64 vn)).set 1 (.slice A0 (envN s nm).length cE)
    have k5 := (KQ.out.1.setCell ⟨d, 0, none⟩ (.int .i64 vn) (.inr KQ.out.2)).setCell ⟨d, 1, none⟩ (.slice A0 (envN s nm).length cE) (.inr KQ.out.2)
    go_upto_region 2 with fail
    generalize (W.setCell ⟨d, 0, none⟩ (.int .i64 vn)).setCell ⟨d, 1, none⟩ (.slice A0 (envN s nm).length cE) = W5 at *
    have K5 := Lib.hid k5
    have RA := Lib.hid (k5.row HQ.out.1 (by simp))
    have HC2 : Hid (∀ V, keepBut (q :: p :: (homes s.kv ++ homes s.vv)) W5 V → V.cell? ⟨d, 0, none⟩ = some (.int .i64 vn) ∧ V.cell? ⟨d, 1, none⟩ = some (.slice A0 (envN s nm).length cE) ∧ V.cell? ⟨w.heap.size, 3, none⟩ = some (.int .i64 vr) ∧ V.cell? ⟨w.heap.size, 36, none⟩ = some ev ∧ V.rangeAt w.heap.size 4 (nameL nm)) := Lib.hid (fun V k => by
      have hfar : ∀ x ∈ q :: p :: (homes s.kv ++ homes s.vv), x < w.heap.size := fun x hx => by
        rcases List.mem_cons.1 hx with rfl | hx
        · exact HQ.out.2.2.2
        · rcases List.mem_cons.1 hx with rfl | hx
          · exact H0.out.1.row.lt
          · rcases List.mem_append.1 hx with hx | hx
            · exact H0.out.1.kown.lt _ hx
            · exact H0.out.1.vown.lt _ hx
      have hdq : d ∉ q :: p :: (homes s.kv ++ homes s.vv) := fun hm => by have := hfar _ hm; have := KQ.out.2; have := HK.out.size; omega
      have hwq : w.heap.size ∉ q :: p :: (homes s.kv ++ homes s.vv) := fun hm => Nat.lt_irrefl _ (hfar _ hm)
      have hr := k.row (K5.out.row HX.out.2.2 (by simp)) hwq
      exact ⟨(k.row r5 hdq).cell 0, (k.row r5 hdq).cell 1, (hr.cell 3).trans HX.out.1, (hr.cell 36).trans HX.out.2.1, hr.range (by rw [← H0.out.2.2.2.2.2, ← HNM.out]; exact rqL_name r ev)⟩)
    have HT5 := Lib.hid (And.intro (HT.out.over K5.out) (HV.out.1.keep K5.out (by simp)))
    clear r5 k5
    have y0 := (HC2.out W5 (keepBut.refl _ _)).1
    have y3 := (HC2.out W5 (keepBut.refl _ _)).2.2.1
    have hw := HB.out
    have he := HC.out
    have hn := HN.out
    have hnl : s.names.length = s.objs.length := by unfold TS.names; rw [List.length_map]
    go_upto_region 4 with (go_at_call 34; refine (countN_any p s _ HT5.out.1).mono ?_; rintro e w7 ⟨rfl, rfl⟩)
    clear y0 y3 hw he hn
    have KT : keepBut (q :: p :: (homes s.kv ++ homes s.vv)) W5 W5.drew := (keepBut.refl _ W5).drew
    refine wp_region_held_drew (S := fun V => keepBut (q :: p :: (homes s.kv ++ homes s.vv)) W5 V) (by kernel_rfl) KT (fun _ => ?_)
    refine wpAnyH_take (i := 0) (oi := ⟨_, _, _, _, _, _⟩) (v := ?_) rfl (by kernel_rfl) (by kernel_rfl) (by kernel_rfl) (fun _ _ _ h => h) (Or.inl ⟨by rfl, ?_⟩) KT ?_
    rotate_left
    · intro w' hSw; (go_simp; try with_reducible rfl)
    try simp only [Act.put, List.setIfInBounds_toArray, List.set_cons_zero, List.set_cons_succ]
    refine wpAnyH_take (i := 1) (oi := ⟨_, _, _, _, _, _⟩) (v := ?_) rfl (by kernel_rfl) (by kernel_rfl) (by kernel_rfl) (fun _ _ _ h => h) (Or.inl ⟨by rfl, ?_⟩) KT ?_
    rotate_left
    · intro w' hSw; (go_simp; try with_reducible rfl)
    try simp only [Act.put, List.setIfInBounds_toArray, List.set_cons_zero, List.set_cons_succ]
    refine wpAnyH_take (i := 2) (oi := ⟨_, _, _, _, _, _⟩) (v := ?_) rfl (by kernel_rfl) (by kernel_rfl) (by kernel_rfl) (fun _ _ _ h => h) (Or.inl ⟨by rfl, ?_⟩) KT ?_
    rotate_left
    · intro w' hSw; (go_simp; try with_reducible rfl)
    try simp only [Act.put, List.setIfInBounds_toArray, List.set_cons_zero, List.set_cons_succ]
    refine wpAnyH_take (i := 3) (oi := ⟨_, _, _, _, _, _⟩) (v := ?_) rfl (by kernel_rfl) (by kernel_rfl) (by kernel_rfl) (fun _ _ _ h => h) (Or.inl ⟨by rfl, ?_⟩) KT ?_
    rotate_left
    · intro w' hSw; (go_simp; try with_reducible rfl)
    try simp only [Act.put, List.setIfInBounds_toArray, List.set_cons_zero, List.set_cons_succ]
    refine wpAnyH_take (i := 4) (oi := ⟨_, _, _, _, _, _⟩) (v := .agg (nameL nm).toArray) rfl (by kernel_rfl) (by kernel_rfl) (by kernel_rfl) (fun _ _ _ h => h) (yieldsIf_mid 28 (.tmp 51) rfl w.heap.size 4 rfl (nameL nm) _ (fun w' hSw => (HC2.out w' hSw).2.2.2.2) Tryd.underlying28 rfl (by rw [nameL_len, HA.out]; exact infoName) ?_) KT ?_
    · rfl
    try simp only [Act.put, List.setIfInBounds_toArray, List.set_cons_zero, List.set_cons_succ]
    refine wpAnyH_take (i := 5) (oi := ⟨_, _, _, _, _, _⟩) (v := ?_) rfl (by kernel_rfl) (by kernel_rfl) (by kernel_rfl) (fun _ _ _ h => h) (Or.inl ⟨by rfl, ?_⟩) KT ?_
    rotate_left
    · intro w' hSw; (go_simp; try with_reducible rfl)
    try simp only [Act.put, List.setIfInBounds_toArray, List.set_cons_zero, List.set_cons_succ]
    refine wpAnyH_take (i := 6) (oi := ⟨_, _, _, _, _, _⟩) (v := ?_) rfl (by kernel_rfl) (by kernel_rfl) (by kernel_rfl) (fun _ _ _ h => h) (Or.inl ⟨by rfl, ?_⟩) KT ?_
    rotate_left
    · intro w' hSw; have hy := (HC2.out w' hSw).2.2.1; (go_simp; try with_reducible rfl)
    try simp only [Act.put, List.setIfInBounds_toArray, List.set_cons_zero, List.set_cons_succ]
    refine wpAnyH_take (i := 7) (oi := ⟨_, _, _, _, _, _⟩) (v := ?_) rfl (by kernel_rfl) (by kernel_rfl) (by kernel_rfl) (fun _ _ _ h => h) (Or.inl ⟨by rfl, ?_⟩) KT ?_
    rotate_left
    · intro w' hSw; (go_simp; try with_reducible rfl)
    try simp only [Act.put, List.setIfInBounds_toArray, List.set_cons_zero, List.set_cons_succ]
    refine wpAnyH_take (i := 8) (oi := ⟨_, _, _, _, _, _⟩) (v := ?_) rfl (by kernel_rfl) (by kernel_rfl) (by kernel_rfl) (fun _ _ _ h => h) (Or.inl ⟨by rfl, ?_⟩) KT ?_
    rotate_left
    · intro w' hSw; have hy := (HC2.out w' hSw).2.2.2.1; (go_simp; try with_reducible rfl)
    try simp only [Act.put, List.setIfInBounds_toArray, List.set_cons_zero, List.set_cons_succ]
    refine wpAnyH_ready (rs := [9]) (by kernel_rfl) (by simp) ?_
    refine AllReadyH.cons (o := ⟨_, _, _, _, _, _⟩) rfl (fun K hK => ?_) AllReadyH.nil
    go_simp
    refine (cloneB_any F ev r.env _ (((H0.out.2.1.2.keep HK.out (by simp)).keep K5.out (by simp)).keep ((keepBut.refl [] W5).drew) (by simp)) (by have := H0.out.2.2.2.2.1; omega)).mono ?_
    rintro e w7 ⟨v7, G, rfl, n7⟩
    obtain ⟨A7, c7, g7, rfl, _⟩ := id n7.1
    have N7 := Lib.hid n7
    have K7 := Lib.hid (KT.then n7.2.2.2 (by simp))
    have KE := Lib.hid (((keepBut.refl [] W5).drew).then n7.2.2.2 (by simp))
    have R7 := Lib.hid (n7.2.2.2.row (show rowAt W5.drew q 40 _ from RA.out) (by simp))
    clear n7
    go_wp2_with fail
    refine hK.out _ _ K7.out (fun _ => ?_)
    clear hK K
    try simp only [Act.put, List.setIfInBounds_toArray, List.set_cons_zero, List.set_cons_succ]
    refine wpAnyH_take (i := 10) (oi := ⟨_, _, _, _, _, _⟩) (v := ?_) rfl (by kernel_rfl) (by kernel_rfl) (by kernel_rfl) (fun _ _ _ h => h) (Or.inl ⟨by rfl, ?_⟩) K7.out ?_
    rotate_left
    · intro w' hSw; (go_simp; try with_reducible rfl)
    try simp only [Act.put, List.setIfInBounds_toArray, List.set_cons_zero, List.set_cons_succ]
    refine wpAnyH_ready (rs := [11]) (by kernel_rfl) (by simp) ?_
    refine AllReadyH.cons (o := ⟨_, _, _, _, _, _⟩) rfl (fun K hK => ?_) AllReadyH.nil
    go_simp
    refine (putN_no p s ⟨nm, vr, r.env, .slice A7 r.env.length c7⟩ G HA.out _ (HT5.out.1.over KE.out) HH.out (by have := HN.out; omega) H0.out.2.2.2.2.1 N7.out.1 N7.out.2.1).mono ?_
    rintro e w8 ⟨kv, vv, rfl, n8⟩
    have N8 := Lib.hid n8
    clear n8
    have hqP : q ∉ p :: (homes s.kv ++ homes s.vv) := by
      have h1 := H0.out.1.vown_q H0.out.2.2.1
      have h2 := H0.out.1.row.apart H0.out.2.2.1 (by decide)
      intro hm
      rcases List.mem_cons.1 hm with rfl | hm
      · exact h2 rfl
      · exact h1 hm
    have R8 := Lib.hid (N8.out.2.1.row R7.out hqP)
    go_wp2_with fail
    refine hK.out _ _ (K7.out.then N8.out.2.1 (fun x hx => .inl (List.mem_cons_of_mem _ hx))) (fun _ => ?_)
    clear hK K
    try simp only [Act.put, List.setIfInBounds_toArray, List.set_cons_zero, List.set_cons_succ]
    refine wpAnyH_done (by kernel_rfl) ?_ _
    have y3 : w8.cell? ⟨q, 3, none⟩ = some (.int .i64 a.version) := R8.out.cell 3
    have f3 := R8.out.free 3
    have hwP : w.heap.size ∉ p :: (homes s.kv ++ homes s.vv) := by
      have h1 := H0.out.1.row.lt
      have h2 := H0.out.1.kown.lt
      have h3 := H0.out.1.vown.lt
      intro hm
      rcases List.mem_cons.1 hm with hm | hm
      · omega
      · rcases List.mem_append.1 hm with hm | hm
        · exact Nat.lt_irrefl _ (h2 _ hm)
        · exact Nat.lt_irrefl _ (h3 _ hm)
    have yv : w8.cell? ⟨w.heap.size, 3, none⟩ = some (.int .i64 vr) := ((N8.out.2.1.row (KE.out.row (K5.out.row HX.out.2.2 (by simp)) (by simp)) hwP).cell 3).trans HX.out.1
    go_wp2_with fail
    go_end0
    have rA : rowAt (w8.setCell ⟨q, 3, none⟩ (.int .i64 vr)) q 40 (anL { a with version := vr } nilV).toArray := R8.out.set 3 _
    have bA := kset w8 q 3 (.int .i64 vr)
    have e1 : aPut s.pure r a = (s.pure.put ⟨nm, vr, r.env⟩, { a with version := vr }) := by
      unfold aPut
      rw [ver_pure, hit_pure, HNM.out, HVN.out, HVR.out, HH.out, if_pos ⟨HC.out, .inr (by have h3 : s.pure.objs.length = s.objs.length := (by unfold TS.pure; simp); have := HN.out; omega)⟩]
    have k5 := HK.out.then (K5.out.then KE.out (by simp)) (by simp)
    have k8 : keepBut (p :: (homes s.kv ++ homes s.vv)) w w8 := (k5.more (by simp)).then N8.out.2.1 (fun x hx => .inl hx)
    have s7 := k5.size
    rw [e1]
    refine ⟨rfl, ⟨_, N8.out.1.keepQ R8.out ?_ bA, put_pure s _ kv vv G, rfl, rfl, fun y hy => ?_, fun y hy => ?_⟩, ⟨nilV, [], rA, by show bytesV _ _ _ a.env; rw [HQ.out.2.2.1]; exact bytesV.nil _ _, fun y hy => by simp at hy, fun y hy => by simp at hy⟩, (k8.more (fun x hx => List.mem_cons_of_mem _ hx)).then bA (fun x hx => by simp at hx; subst hx; exact .inl (by simp))⟩
    · exact H0.out.2.2.2.1
    · rcases N8.out.2.2.1 y hy with h1 | h1
      · exact .inl h1
      · exact .inr (by omega)
    · rcases N8.out.2.2.2 y hy with h1 | h1
      · exact .inl h1
      · exact .inr (by omega))
set_option maxHeartbeats 8000000 in
theorem actPut_mef (p q : Nat) (s : TS) (F : List Nat) (r : RQ) (ev : Value) (a : AN) (w : World) (h : isT w p s) (hr : rqV w F r ev) (hq : rowAt w q 40 (anL a nilV).toArray) (hqa : q ∉ homes s.av) (han : a.name.length = 32) (hae : a.env = []) (hb : IntKind.i64.wrap (verN s r.name + 1) = verN s r.name + 1) (hel : r.env.length ≤ 1000)
    (hh : hitN s r.name = false) (he : r.version = verN s r.name + 1) (hn : ¬ s.objs.length < 64) :
    Calls Tryd.prog 53 #[.pointer (some ⟨p, 0, none⟩), .agg (rqL r ev).toArray, .pointer (some ⟨q, 0, none⟩)] w (actDone p q s (aPut s.pure r a) w) := by
  obtain ⟨X, hX⟩ : ∃ X, rqL r ev = X := ⟨_, rfl⟩
  have hXn : ∀ j v, (nameL r.name)[j]? = some v → X.toArray[4 + j]? = some v := by rw [← hX]; exact rqL_name r ev
  have hX3 : X.toArray[3]? = some (.int .i64 r.version) := by rw [← hX]; rfl
  have hXe : X.toArray[36]? = some ev := by rw [← hX]; exact rqL_env hr.1
  rw [hX]
  obtain ⟨w1, hw1⟩ : ∃ w1, w.alloc (.cells X.toArray 31) = w1 := ⟨_, rfl⟩
  have r1 : rowAt w1 w.heap.size 31 X.toArray := hw1 ▸ rowAt.new _ _ _
  have k1 : keepBut [] w w1 := hw1 ▸ (keepBut.refl [] w).alloc _
  have HW1 := Lib.hid hw1
  have HRG : Hid (∀ W, keepBut [] w1 W → isT W p s ∧ W.rangeAt w.heap.size 4 (nameL r.name)) := Lib.hid (fun W k => ⟨(h.over k1).over k, (k.row r1 (by simp)).range hXn⟩)
  have HT := Lib.hid (h.over k1)
  have HK := Lib.hid k1
  have HA := Lib.hid hr.1
  have HQ := Lib.hid (And.intro (k1.row hq (by simp)) (And.intro han (And.intro hae hq.lt)))
  have HH := Lib.hid hh
  have H0 := Lib.hid (And.intro h (And.intro hr (And.intro hq (And.intro hqa (And.intro hel hX)))))
  have HX := Lib.hid (And.intro hX3 (And.intro hXe r1))
  obtain ⟨hev, hel2⟩ := h.evN r.name
  obtain ⟨A0, cE, g0, hE, _⟩ := id hev
  rw [hE] at hev
  have HE := Lib.hid hE
  have HV := Lib.hid (And.intro (hev.keep k1 (by simp)) hel2)
  have hbr := hr.2
  obtain ⟨AR, cR, gR, hER, _⟩ := id hbr
  have HER := Lib.hid hER
  have HB := Lib.hid hb
  have HC := Lib.hid he
  clear he
  have HN := Lib.hid hn
  clear hn
  clear hw1 r1 k1 h hE hev hel2 hX hXn hr hq hqa han hae hh hX3 hXe hel hbr hER hb
  generalize hnm : r.name = nm at *
  have HNM := Lib.hid hnm
  clear hnm
  generalize hvr : r.version = vr at *
  have HVR := Lib.hid hvr
  clear hvr
  generalize hvn : verN s nm = vn at *
  have HVN := Lib.hid hvn
  clear hvn
  go_enter Tryd.func53, Tryd.ntmps53
  go_upto_region 1 with (with_reducible refine wpList_box_to _ _ rfl 31 (.tmp 1) rfl _ rfl HW1.out ?_)
  have KS : keepBut [] w1 w1.drew := (keepBut.refl [] w1).drew
  refine wp_region_held_drew (S := fun W => keepBut [] w1 W) (by kernel_rfl) KS (fun _ => ?_)
  refine wpAnyH_take (i := 0) (oi := ⟨_, _, _, _, _, _⟩) (v := ?_) rfl (by kernel_rfl) (by kernel_rfl) (by kernel_rfl) (fun _ _ _ h => h) (Or.inl ⟨by rfl, ?_⟩) KS ?_
  rotate_left
  · intro w' hSw; (go_simp; try with_reducible rfl)
  try simp only [Act.put, List.setIfInBounds_toArray, List.set_cons_zero, List.set_cons_succ]
  refine wpAnyH_take (i := 1) (oi := ⟨_, _, _, _, _, _⟩) (v := ?_) rfl (by kernel_rfl) (by kernel_rfl) (by kernel_rfl) (fun _ _ _ h => h) (Or.inl ⟨by rfl, ?_⟩) KS ?_
  rotate_left
  · intro w' hSw; (go_simp; try with_reducible rfl)
  try simp only [Act.put, List.setIfInBounds_toArray, List.set_cons_zero, List.set_cons_succ]
  refine wpAnyH_take (i := 2) (oi := ⟨_, _, _, _, _, _⟩) (v := ?_) rfl (by kernel_rfl) (by kernel_rfl) (by kernel_rfl) (fun _ _ _ h => h) (Or.inl ⟨by rfl, ?_⟩) KS ?_
  rotate_left
  · intro w' hSw; (go_simp; try with_reducible rfl)
  try simp only [Act.put, List.setIfInBounds_toArray, List.set_cons_zero, List.set_cons_succ]
  refine wpAnyH_take (i := 3) (oi := ⟨_, _, _, _, _, _⟩) (v := ?_) rfl (by kernel_rfl) (by kernel_rfl) (by kernel_rfl) (fun _ _ _ h => h) (Or.inl ⟨by rfl, ?_⟩) KS ?_
  rotate_left
  · intro w' hSw; (go_simp; try with_reducible rfl)
  try simp only [Act.put, List.setIfInBounds_toArray, List.set_cons_zero, List.set_cons_succ]
  refine wpAnyH_take (i := 4) (oi := ⟨_, _, _, _, _, _⟩) (v := .agg (nameL nm).toArray) rfl (by kernel_rfl) (by kernel_rfl) (by kernel_rfl) (fun _ _ _ h => h) (yieldsIf_mid 28 (.tmp 12) rfl w.heap.size 4 rfl (nameL nm) _ (fun w' hSw => (HRG.out w' hSw).2) Tryd.underlying28 rfl (by rw [nameL_len, HA.out]; exact infoName) ?_) KS ?_
  · rfl
  try simp only [Act.put, List.setIfInBounds_toArray, List.set_cons_zero, List.set_cons_succ]
  refine wpAnyH_ready (rs := [5, 9]) (by kernel_rfl) (by simp) ?_
  refine AllReadyH.cons (o := ⟨_, _, _, _, _, _⟩) rfl (fun K hK => ?_) (AllReadyH.cons (o := ⟨_, _, _, _, _, _⟩) rfl (fun K hK => ?_) AllReadyH.nil)
  go_simp
  refine (getN_any p s nm HA.out _ (HRG.out _ KS).1).mono ?_
  rintro e w2 ⟨rfl, kk⟩
  rw [cellsO_eq, HE.out, HH.out, HVN.out]
  have K2 := Lib.hid (KS.then kk (by simp))
  clear kk
  go_wp2_with fail
  refine hK.out _ _ K2.out (fun _ => ?_)
  clear hK K
  try simp only [Act.put, List.setIfInBounds_toArray, List.set_cons_zero, List.set_cons_succ]
  refine wpAnyH_take (i := 6) (oi := ⟨_, _, _, _, _, _⟩) (v := ?_) rfl (by kernel_rfl) (by kernel_rfl) (by kernel_rfl) (fun _ _ _ h => h) (Or.inl ⟨by rfl, ?_⟩) K2.out ?_
  rotate_left
  · intro w' hSw; (go_simp; try with_reducible rfl)
  try simp only [Act.put, List.setIfInBounds_toArray, List.set_cons_zero, List.set_cons_succ]
  refine wpAnyH_take (i := 7) (oi := ⟨_, _, _, _, _, _⟩) (v := ?_) rfl (by kernel_rfl) (by kernel_rfl) (by kernel_rfl) (fun _ _ _ h => h) (Or.inl ⟨by rfl, ?_⟩) K2.out ?_
  rotate_left
  · intro w' hSw; (go_simp; try with_reducible rfl)
  try simp only [Act.put, List.setIfInBounds_toArray, List.set_cons_zero, List.set_cons_succ]
  refine wpAnyH_take (i := 8) (oi := ⟨_, _, _, _, _, _⟩) (v := ?_) rfl (by kernel_rfl) (by kernel_rfl) (by kernel_rfl) (fun _ _ _ h => h) (Or.inl ⟨by rfl, ?_⟩) K2.out ?_
  rotate_left
  · intro w' hSw; (go_simp; try with_reducible rfl)
  try simp only [Act.put, List.setIfInBounds_toArray, List.set_cons_zero, List.set_cons_succ]
  refine wpAnyH_ready (rs := [9]) (by kernel_rfl) (by simp) ?_
  refine AllReadyH.cons (o := ⟨_, _, _, _, _, _⟩) rfl (fun K hK => ?_) AllReadyH.nil
  go_simp
  refine hK.out _ _ (K2.out.alloc (.cells #[.int .i64 0, .slice none 0 0] 72)) (fun _ => ?_)
  clear hK K
  try simp only [Act.put, List.setIfInBounds_toArray, List.set_cons_zero, List.set_cons_succ]
  have RQ := Lib.hid (rowAt.new w2 72 #[.int .i64 0, .slice none 0 0])
  have KQ := Lib.hid (And.intro (K2.out.alloc (.cells #[.int .i64 0, .slice none 0 0] 72)) (show w1.heap.size ≤ w2.heap.size from K2.out.size))
  obtain ⟨d, hd⟩ : ∃ d, w2.heap.size = d := ⟨_, rfl⟩
  rw [hd] at RQ KQ ⊢
  generalize w2.alloc (.cells #[.int .i64 0, .slice none 0 0] 72) = W at *
  clear hd
  rotate_left
  go_simp
  refine hK.out _ _ (KS.alloc (.cells #[.int .i64 0, .slice none 0 0] 72)) (fun _ => ?_)
  clear hK K
  try simp only [Act.put, List.setIfInBounds_toArray, List.set_cons_zero, List.set_cons_succ]
  refine wpAnyH_ready (rs := [5]) (by kernel_rfl) (by simp) ?_
  refine AllReadyH.cons (o := ⟨_, _, _, _, _, _⟩) rfl (fun K hK => ?_) AllReadyH.nil
  go_simp
  refine (getN_any p s nm HA.out _ (HRG.out _ (KS.alloc (.cells #[.int .i64 0, .slice none 0 0] 72))).1).mono ?_
  rintro e w2 ⟨rfl, kk⟩
  rw [cellsO_eq, HE.out, HH.out, HVN.out]
  have K2 := Lib.hid ((KS.alloc (.cells #[.int .i64 0, .slice none 0 0] 72)).then kk (by simp))
  have RQ := Lib.hid (kk.row (rowAt.new w1.drew 72 #[.int .i64 0, .slice none 0 0]) (by simp))
  clear kk
  go_wp2_with fail
  refine hK.out _ _ K2.out (fun _ => ?_)
  clear hK K
  try simp only [Act.put, List.setIfInBounds_toArray, List.set_cons_zero, List.set_cons_succ]
  have KQ := Lib.hid (And.intro K2.out (show w1.heap.size ≤ w1.drew.heap.size from Nat.le_refl _))
  refine wpAnyH_take (i := 6) (oi := ⟨_, _, _, _, _, _⟩) (v := ?_) rfl (by kernel_rfl) (by kernel_rfl) (by kernel_rfl) (fun _ _ _ h => h) (Or.inl ⟨by rfl, ?_⟩) K2.out ?_
  rotate_left
  · intro w' hSw; (go_simp; try with_reducible rfl)
  try simp only [Act.put, List.setIfInBounds_toArray, List.set_cons_zero, List.set_cons_succ]
  refine wpAnyH_take (i := 7) (oi := ⟨_, _, _, _, _, _⟩) (v := ?_) rfl (by kernel_rfl) (by kernel_rfl) (by kernel_rfl) (fun _ _ _ h => h) (Or.inl ⟨by rfl, ?_⟩) K2.out ?_
  rotate_left
  · intro w' hSw; (go_simp; try with_reducible rfl)
  try simp only [Act.put, List.setIfInBounds_toArray, List.set_cons_zero, List.set_cons_succ]
  refine wpAnyH_take (i := 8) (oi := ⟨_, _, _, _, _, _⟩) (v := ?_) rfl (by kernel_rfl) (by kernel_rfl) (by kernel_rfl) (fun _ _ _ h => h) (Or.inl ⟨by rfl, ?_⟩) K2.out ?_
  rotate_left
  · intro w' hSw; (go_simp; try with_reducible rfl)
  try simp only [Act.put, List.setIfInBounds_toArray, List.set_cons_zero, List.set_cons_succ]
  obtain ⟨d, hd⟩ : ∃ d, w1.drew.heap.size = d := ⟨_, rfl⟩
  rw [hd] at RQ KQ
  change w1.heap.size = d at hd
  rw [hd]
  clear hd
  generalize w2 = W at *
  all_goals (
    have c0 := RQ.out.cell 0
    have c1 := RQ.out.cell 1
    have f0 := RQ.out.free 0
    have f1 := RQ.out.free 1
    refine wpAnyH_ready (rs := [10]) (by kernel_rfl) (by simp) ?_
    refine AllReadyH.cons (o := ⟨_, _, _, _, _, _⟩) rfl (fun K hK => ?_) AllReadyH.nil
    go_simp
    refine hK.out _ _ ((KQ.out.1.setCell ⟨d, 0, none⟩ _ (.inr KQ.out.2)).setCell ⟨d, 1, none⟩ _ (.inr KQ.out.2)) (fun _ => ?_)
    clear hK K
    try simp only [Act.put, List.setIfInBounds_toArray, List.set_cons_zero, List.set_cons_succ]
    refine wpAnyH_take (i := 11) (oi := ⟨_, _, _, _, _, _⟩) (v := ?_) rfl (by kernel_rfl) (by kernel_rfl) (by kernel_rfl) (fun _ _ _ h => h) (Or.inl ⟨by rfl, ?_⟩) ((KQ.out.1.setCell ⟨d, 0, none⟩ (.int .i64 vn) (.inr KQ.out.2)).setCell ⟨d, 1, none⟩ (.slice A0 (envN s nm).length cE) (.inr KQ.out.2)) ?_
    rotate_left
    · intro w' hSw; (go_simp; try with_reducible rfl)
    try simp only [Act.put, List.setIfInBounds_toArray, List.set_cons_zero, List.set_cons_succ]
    refine wpAnyH_done (by kernel_rfl) ?_ _
    clear c0 c1 f0 f1
    have r5 := (RQ.out.set 0 (.int .i64 vn)).set 1 (.slice A0 (envN s nm).length cE)
    have k5 := (KQ.out.1.setCell ⟨d, 0, none⟩ (.int .i64 vn) (.inr KQ.out.2)).setCell ⟨d, 1, none⟩ (.slice A0 (envN s nm).length cE) (.inr KQ.out.2)
    go_upto_region 2 with fail
    generalize (W.setCell ⟨d, 0, none⟩ (.int .i64 vn)).setCell ⟨d, 1, none⟩ (.slice A0 (envN s nm).length cE) = W5 at *
    have K5 := Lib.hid k5
    have RA := Lib.hid (k5.row HQ.out.1 (by simp))
    have HC2 : Hid (∀ V, keepBut (q :: p :: (homes s.kv ++ homes s.vv)) W5 V → V.cell? ⟨d, 0, none⟩ = some (.int .i64 vn) ∧ V.cell? ⟨d, 1, none⟩ = some (.slice A0 (envN s nm).length cE) ∧ V.cell? ⟨w.heap.size, 3, none⟩ = some (.int .i64 vr) ∧ V.cell? ⟨w.heap.size, 36, none⟩ = some ev ∧ V.rangeAt w.heap.size 4 (nameL nm)) := Lib.hid (fun V k => by
      have hfar : ∀ x ∈ q :: p :: (homes s.kv ++ homes s.vv), x < w.heap.size := fun x hx => by
        rcases List.mem_cons.1 hx with rfl | hx
        · exact HQ.out.2.2.2
        · rcases List.mem_cons.1 hx with rfl | hx
          · exact H0.out.1.row.lt
          · rcases List.mem_append.1 hx with hx | hx
            · exact H0.out.1.kown.lt _ hx
            · exact H0.out.1.vown.lt _ hx
      have hdq : d ∉ q :: p :: (homes s.kv ++ homes s.vv) := fun hm => by have := hfar _ hm; have := KQ.out.2; have := HK.out.size; omega
      have hwq : w.heap.size ∉ q :: p :: (homes s.kv ++ homes s.vv) := fun hm => Nat.lt_irrefl _ (hfar _ hm)
      have hr := k.row (K5.out.row HX.out.2.2 (by simp)) hwq
      exact ⟨(k.row r5 hdq).cell 0, (k.row r5 hdq).cell 1, (hr.cell 3).trans HX.out.1, (hr.cell 36).trans HX.out.2.1, hr.range (by rw [← H0.out.2.2.2.2.2, ← HNM.out]; exact rqL_name r ev)⟩)
    have HT5 := Lib.hid (And.intro (HT.out.over K5.out) (HV.out.1.keep K5.out (by simp)))
    clear r5 k5
    have y0 := (HC2.out W5 (keepBut.refl _ _)).1
    have y3 := (HC2.out W5 (keepBut.refl _ _)).2.2.1
    have hw := HB.out
    have he := HC.out
    have hn := HN.out
    have hnl : s.names.length = s.objs.length := by unfold TS.names; rw [List.length_map]
    go_upto_region 3 with (go_at_call 34; refine (countN_any p s _ HT5.out.1).mono ?_; rintro e w7 ⟨rfl, rfl⟩)
    clear y0 y3 hw he hn
    have KT : keepBut [q] W5 W5.drew := (keepBut.refl [q] W5).drew
    refine wp_region_held_drew (S := fun V => keepBut [q] W5 V) (by kernel_rfl) KT (fun _ => ?_)
    refine wpAnyH_take (i := 0) (oi := ⟨_, _, _, _, _, _⟩) (v := ?_) rfl (by kernel_rfl) (by kernel_rfl) (by kernel_rfl) (fun _ _ _ h => h) (Or.inl ⟨by rfl, ?_⟩) KT ?_
    rotate_left
    · intro w' hSw; (go_simp; try with_reducible rfl)
    try simp only [Act.put, List.setIfInBounds_toArray, List.set_cons_zero, List.set_cons_succ]
    refine wpAnyH_take (i := 1) (oi := ⟨_, _, _, _, _, _⟩) (v := ?_) rfl (by kernel_rfl) (by kernel_rfl) (by kernel_rfl) (fun _ _ _ h => h) (Or.inl ⟨by rfl, ?_⟩) KT ?_
    rotate_left
    · intro w' hSw; (go_simp; try with_reducible rfl)
    try simp only [Act.put, List.setIfInBounds_toArray, List.set_cons_zero, List.set_cons_succ]
    refine wpAnyH_take (i := 2) (oi := ⟨_, _, _, _, _, _⟩) (v := ?_) rfl (by kernel_rfl) (by kernel_rfl) (by kernel_rfl) (fun _ _ _ h => h) (Or.inl ⟨by rfl, ?_⟩) KT ?_
    rotate_left
    · intro w' hSw; (go_simp; try with_reducible rfl)
    try simp only [Act.put, List.setIfInBounds_toArray, List.set_cons_zero, List.set_cons_succ]
    refine wpAnyH_take (i := 3) (oi := ⟨_, _, _, _, _, _⟩) (v := ?_) rfl (by kernel_rfl) (by kernel_rfl) (by kernel_rfl) (fun _ _ _ h => h) (Or.inl ⟨by rfl, ?_⟩) KT ?_
    rotate_left
    · intro w' hSw; (go_simp; try with_reducible rfl)
    try simp only [Act.put, List.setIfInBounds_toArray, List.set_cons_zero, List.set_cons_succ]
    refine wpAnyH_take (i := 4) (oi := ⟨_, _, _, _, _, _⟩) (v := ?_) rfl (by kernel_rfl) (by kernel_rfl) (by kernel_rfl) (fun _ _ _ h => h) (Or.inl ⟨by rfl, ?_⟩) KT ?_
    rotate_left
    · intro w' hSw; have hy := (HC2.out w' (hSw.more (by simp))).1; (go_simp; try with_reducible rfl)
    try simp only [Act.put, List.setIfInBounds_toArray, List.set_cons_zero, List.set_cons_succ]
    refine wpAnyH_take (i := 5) (oi := ⟨_, _, _, _, _, _⟩) (v := ?_) rfl (by kernel_rfl) (by kernel_rfl) (by kernel_rfl) (fun _ _ _ h => h) (Or.inl ⟨by rfl, ?_⟩) KT ?_
    rotate_left
    · intro w' hSw; (go_simp; try with_reducible rfl)
    try simp only [Act.put, List.setIfInBounds_toArray, List.set_cons_zero, List.set_cons_succ]
    refine wpAnyH_take (i := 6) (oi := ⟨_, _, _, _, _, _⟩) (v := ?_) rfl (by kernel_rfl) (by kernel_rfl) (by kernel_rfl) (fun _ _ _ h => h) (Or.inl ⟨by rfl, ?_⟩) KT ?_
    rotate_left
    · intro w' hSw; have hy := (HC2.out w' (hSw.more (by simp))).2.1; (go_simp; try with_reducible rfl)
    try simp only [Act.put, List.setIfInBounds_toArray, List.set_cons_zero, List.set_cons_succ]
    refine wpAnyH_ready (rs := [7]) (by kernel_rfl) (by simp) ?_
    refine AllReadyH.cons (o := ⟨_, _, _, _, _, _⟩) rfl (fun K hK => ?_) AllReadyH.nil
    go_simp
    refine (cloneB_any s.F _ (envN s nm) _ (HT5.out.2.keep ((keepBut.refl [] W5).drew) (by simp)) (by have := HV.out.2; omega)).mono ?_
    rintro e w7 ⟨v7, G, rfl, n7⟩
    obtain ⟨A7, c7, g7, rfl, _⟩ := id n7.1
    have N7 := Lib.hid n7
    have K7 := Lib.hid (KT.then n7.2.2.2 (by simp))
    have R7 := Lib.hid (n7.2.2.2.row (show rowAt W5.drew q 40 _ from RA.out) (by simp))
    clear n7
    go_wp2_with fail
    refine hK.out _ _ K7.out (fun _ => ?_)
    clear hK K
    try simp only [Act.put, List.setIfInBounds_toArray, List.set_cons_zero, List.set_cons_succ]
    refine wpAnyH_take (i := 8) (oi := ⟨_, _, _, _, _, _⟩) (v := ?_) rfl (by kernel_rfl) (by kernel_rfl) (by kernel_rfl) (fun _ _ _ h => h) (Or.inl ⟨by rfl, ?_⟩) K7.out ?_
    rotate_left
    · intro w' hSw; (go_simp; try with_reducible rfl)
    try simp only [Act.put, List.setIfInBounds_toArray, List.set_cons_zero, List.set_cons_succ]
    refine wpAnyH_take (i := 9) (oi := ⟨_, _, _, _, _, _⟩) (v := ?_) rfl (by kernel_rfl) (by kernel_rfl) (by kernel_rfl) (fun _ _ _ h => h) (Or.inl ⟨by rfl, ?_⟩) K7.out ?_
    rotate_left
    · intro w' hSw; (go_simp; try with_reducible rfl)
    try simp only [Act.put, List.setIfInBounds_toArray, List.set_cons_zero, List.set_cons_succ]
    have y2 : w7.cell? ⟨q, 2, none⟩ = some (.int .i64 a.code) := R7.out.cell 2
    have f2 := R7.out.free 2
    refine wpAnyH_ready (rs := [10]) (by kernel_rfl) (by simp) ?_
    refine AllReadyH.cons (o := ⟨_, _, _, _, _, _⟩) rfl (fun K hK => ?_) AllReadyH.nil
    go_simp
    refine hK.out _ _ (K7.out.setCell ⟨q, 2, none⟩ _ (.inl (by simp))) (fun _ => ?_)
    clear hK K
    try simp only [Act.put, List.setIfInBounds_toArray, List.set_cons_zero, List.set_cons_succ]
    have r8 : rowAt (w7.setCell ⟨q, 2, none⟩ (.int .i64 2)) q 40 (anL { a with code := 2 } nilV).toArray := R7.out.set 2 _
    have k8 : keepBut [q] W5 (w7.setCell ⟨q, 2, none⟩ (.int .i64 2)) := K7.out.setCell _ _ (.inl (by simp))
    have b8 := kset w7 q 2 (.int .i64 2)
    clear y2 f2
    generalize w7.setCell ⟨q, 2, none⟩ (.int .i64 2) = w8 at *
    have y3 : w8.cell? ⟨q, 3, none⟩ = some (.int .i64 a.version) := r8.cell 3
    have f3 := r8.free 3
    refine wpAnyH_take (i := 11) (oi := ⟨_, _, _, _, _, _⟩) (v := ?_) rfl (by kernel_rfl) (by kernel_rfl) (by kernel_rfl) (fun _ _ _ h => h) (Or.inl ⟨by rfl, ?_⟩) k8 ?_
    rotate_left
    · intro w' hSw; (go_simp; try with_reducible rfl)
    try simp only [Act.put, List.setIfInBounds_toArray, List.set_cons_zero, List.set_cons_succ]
    refine wpAnyH_take (i := 12) (oi := ⟨_, _, _, _, _, _⟩) (v := ?_) rfl (by kernel_rfl) (by kernel_rfl) (by kernel_rfl) (fun _ _ _ h => h) (Or.inl ⟨by rfl, ?_⟩) k8 ?_
    rotate_left
    · intro w' hSw; (go_simp; try with_reducible rfl)
    try simp only [Act.put, List.setIfInBounds_toArray, List.set_cons_zero, List.set_cons_succ]
    refine wpAnyH_ready (rs := [13]) (by kernel_rfl) (by simp) ?_
    refine AllReadyH.cons (o := ⟨_, _, _, _, _, _⟩) rfl (fun K hK => ?_) AllReadyH.nil
    go_simp
    refine hK.out _ _ (k8.setCell ⟨q, 3, none⟩ _ (.inl (by simp))) (fun _ => ?_)
    clear hK K
    try simp only [Act.put, List.setIfInBounds_toArray, List.set_cons_zero, List.set_cons_succ]
    have r9 : rowAt (w8.setCell ⟨q, 3, none⟩ (.int .i64 vn)) q 40 (anL { a with code := 2, version := vn } nilV).toArray := r8.set 3 _
    have k9 : keepBut [q] W5 (w8.setCell ⟨q, 3, none⟩ (.int .i64 vn)) := k8.setCell _ _ (.inl (by simp))
    have b9 := b8.then (kset w8 q 3 (.int .i64 vn)) (fun x hx => .inl hx)
    clear y3 f3 b8 r8 k8
    generalize w8.setCell ⟨q, 3, none⟩ (.int .i64 vn) = w9 at *
    have y37 : w9.cell? ⟨q, 37, none⟩ = some (.slice none 0 0) := (r9.cell 37).trans (anL_env HQ.out.2.1)
    have f37 := r9.free 37
    refine wpAnyH_take (i := 14) (oi := ⟨_, _, _, _, _, _⟩) (v := ?_) rfl (by kernel_rfl) (by kernel_rfl) (by kernel_rfl) (fun _ _ _ h => h) (Or.inl ⟨by rfl, ?_⟩) k9 ?_
    rotate_left
    · intro w' hSw; (go_simp; try with_reducible rfl)
    try simp only [Act.put, List.setIfInBounds_toArray, List.set_cons_zero, List.set_cons_succ]
    refine wpAnyH_take (i := 15) (oi := ⟨_, _, _, _, _, _⟩) (v := ?_) rfl (by kernel_rfl) (by kernel_rfl) (by kernel_rfl) (fun _ _ _ h => h) (Or.inl ⟨by rfl, ?_⟩) k9 ?_
    rotate_left
    · intro w' hSw; (go_simp; try with_reducible rfl)
    try simp only [Act.put, List.setIfInBounds_toArray, List.set_cons_zero, List.set_cons_succ]
    refine wpAnyH_ready (rs := [16]) (by kernel_rfl) (by simp) ?_
    refine AllReadyH.cons (o := ⟨_, _, _, _, _, _⟩) rfl (fun K hK => ?_) AllReadyH.nil
    go_simp
    refine hK.out _ _ (k9.setCell ⟨q, 37, none⟩ _ (.inl (by simp))) (fun _ => ?_)
    clear hK K
    try simp only [Act.put, List.setIfInBounds_toArray, List.set_cons_zero, List.set_cons_succ]
    refine wpAnyH_done (by kernel_rfl) ?_ _
    go_wp2_with fail
    go_end0
    have rA := r9.set 37 (.slice A7 (envN s nm).length c7)
    rw [anL_set (a := { a with code := 2, version := vn }) HQ.out.2.1] at rA
    have bA := kset w9 q 37 (.slice A7 (envN s nm).length c7)
    have e1 : aPut s.pure r a = (s.pure, { a with code := 2, version := vn, env := envN s nm }) := by
      unfold aPut
      rw [ver_pure, hit_pure, env_pure, HNM.out, HVN.out, HVR.out, HH.out, if_neg (by
        rintro ⟨h1, h2⟩
        rcases h2 with h2 | h2
        · cases h2
        · exact HN.out (by have h3 : s.pure.objs.length = s.objs.length := (by unfold TS.pure; simp); omega))]
    have hGk : ∀ y ∈ G, y ∉ [q] := fun y hy => by have h1 := (N7.out.2.2.1 y hy).1; have h2 := HQ.out.2.2.2; have h3 : W5.drew.heap.size = W5.heap.size := rfl; have s5 := (HK.out.then K5.out (by simp)).size; simp; omega
    have b79 := b9.then bA (fun x hx => .inl hx)
    have s5 := (HK.out.then K5.out (by simp)).size
    have kk : keepBut [q] w (w9.setCell ⟨q, 37, none⟩ (.slice A7 (envN s nm).length c7)) := (((HK.out.then K5.out (by simp)).more (by simp)).then k9 (fun x hx => .inl hx)).then bA (fun x hx => .inl hx)
    rw [e1]
    refine ⟨rfl, ⟨s, H0.out.1.keepQ H0.out.2.2.1 H0.out.2.2.2.1 kk, rfl, rfl, rfl, fun y hy => .inl hy, fun y hy => .inl hy⟩, ⟨.slice A7 (envN s nm).length c7, G, rA, N7.out.1.keep b79 hGk, fun y hy => ?_, fun y hy => ⟨by have h1 := (N7.out.2.2.1 y hy).1; have h3 : W5.drew.heap.size = W5.heap.size := rfl; omega, by have h1 := (N7.out.2.2.1 y hy).2; have h2 := b79.size; omega⟩⟩, kk.more (by simp)⟩
    obtain ⟨cs, hc⟩ := N7.out.2.1 y hy
    exact ⟨cs, b79.row hc (hGk y hy)⟩)
set_option maxHeartbeats 8000000 in
theorem actPut_mn (p q : Nat) (s : TS) (F : List Nat) (r : RQ) (ev : Value) (a : AN) (w : World) (h : isT w p s) (hr : rqV w F r ev) (hq : rowAt w q 40 (anL a nilV).toArray) (hqa : q ∉ homes s.av) (han : a.name.length = 32) (hae : a.env = []) (hb : IntKind.i64.wrap (verN s r.name + 1) = verN s r.name + 1) (hel : r.env.length ≤ 1000)
    (hh : hitN s r.name = false) (he : ¬ r.version = verN s r.name + 1) :
    Calls Tryd.prog 53 #[.pointer (some ⟨p, 0, none⟩), .agg (rqL r ev).toArray, .pointer (some ⟨q, 0, none⟩)] w (actDone p q s (aPut s.pure r a) w) := by
  obtain ⟨X, hX⟩ : ∃ X, rqL r ev = X := ⟨_, rfl⟩
  have hXn : ∀ j v, (nameL r.name)[j]? = some v → X.toArray[4 + j]? = some v := by rw [← hX]; exact rqL_name r ev
  have hX3 : X.toArray[3]? = some (.int .i64 r.version) := by rw [← hX]; rfl
  have hXe : X.toArray[36]? = some ev := by rw [← hX]; exact rqL_env hr.1
  rw [hX]
  obtain ⟨w1, hw1⟩ : ∃ w1, w.alloc (.cells X.toArray 31) = w1 := ⟨_, rfl⟩
  have r1 : rowAt w1 w.heap.size 31 X.toArray := hw1 ▸ rowAt.new _ _ _
  have k1 : keepBut [] w w1 := hw1 ▸ (keepBut.refl [] w).alloc _
  have HW1 := Lib.hid hw1
  have HRG : Hid (∀ W, keepBut [] w1 W → isT W p s ∧ W.rangeAt w.heap.size 4 (nameL r.name)) := Lib.hid (fun W k => ⟨(h.over k1).over k, (k.row r1 (by simp)).range hXn⟩)
  have HT := Lib.hid (h.over k1)
  have HK := Lib.hid k1
  have HA := Lib.hid hr.1
  have HQ := Lib.hid (And.intro (k1.row hq (by simp)) (And.intro han (And.intro hae hq.lt)))
  have HH := Lib.hid hh
  have H0 := Lib.hid (And.intro h (And.intro hr (And.intro hq (And.intro hqa (And.intro hel hX)))))
  have HX := Lib.hid (And.intro hX3 (And.intro hXe r1))
  obtain ⟨hev, hel2⟩ := h.evN r.name
  obtain ⟨A0, cE, g0, hE, _⟩ := id hev
  rw [hE] at hev
  have HE := Lib.hid hE
  have HV := Lib.hid (And.intro (hev.keep k1 (by simp)) hel2)
  have hbr := hr.2
  obtain ⟨AR, cR, gR, hER, _⟩ := id hbr
  have HER := Lib.hid hER
  have HB := Lib.hid hb
  have HC := Lib.hid he
  clear he
  clear hw1 r1 k1 h hE hev hel2 hX hXn hr hq hqa han hae hh hX3 hXe hel hbr hER hb
  generalize hnm : r.name = nm at *
  have HNM := Lib.hid hnm
  clear hnm
  generalize hvr : r.version = vr at *
  have HVR := Lib.hid hvr
  clear hvr
  generalize hvn : verN s nm = vn at *
  have HVN := Lib.hid hvn
  clear hvn
  go_enter Tryd.func53, Tryd.ntmps53
  go_upto_region 1 with (with_reducible refine wpList_box_to _ _ rfl 31 (.tmp 1) rfl _ rfl HW1.out ?_)
  have KS : keepBut [] w1 w1.drew := (keepBut.refl [] w1).drew
  refine wp_region_held_drew (S := fun W => keepBut [] w1 W) (by kernel_rfl) KS (fun _ => ?_)
  refine wpAnyH_take (i := 0) (oi := ⟨_, _, _, _, _, _⟩) (v := ?_) rfl (by kernel_rfl) (by kernel_rfl) (by kernel_rfl) (fun _ _ _ h => h) (Or.inl ⟨by rfl, ?_⟩) KS ?_
  rotate_left
  · intro w' hSw; (go_simp; try with_reducible rfl)
  try simp only [Act.put, List.setIfInBounds_toArray, List.set_cons_zero, List.set_cons_succ]
  refine wpAnyH_take (i := 1) (oi := ⟨_, _, _, _, _, _⟩) (v := ?_) rfl (by kernel_rfl) (by kernel_rfl) (by kernel_rfl) (fun _ _ _ h => h) (Or.inl ⟨by rfl, ?_⟩) KS ?_
  rotate_left
  · intro w' hSw; (go_simp; try with_reducible rfl)
  try simp only [Act.put, List.setIfInBounds_toArray, List.set_cons_zero, List.set_cons_succ]
  refine wpAnyH_take (i := 2) (oi := ⟨_, _, _, _, _, _⟩) (v := ?_) rfl (by kernel_rfl) (by kernel_rfl) (by kernel_rfl) (fun _ _ _ h => h) (Or.inl ⟨by rfl, ?_⟩) KS ?_
  rotate_left
  · intro w' hSw; (go_simp; try with_reducible rfl)
  try simp only [Act.put, List.setIfInBounds_toArray, List.set_cons_zero, List.set_cons_succ]
  refine wpAnyH_take (i := 3) (oi := ⟨_, _, _, _, _, _⟩) (v := ?_) rfl (by kernel_rfl) (by kernel_rfl) (by kernel_rfl) (fun _ _ _ h => h) (Or.inl ⟨by rfl, ?_⟩) KS ?_
  rotate_left
  · intro w' hSw; (go_simp; try with_reducible rfl)
  try simp only [Act.put, List.setIfInBounds_toArray, List.set_cons_zero, List.set_cons_succ]
  refine wpAnyH_take (i := 4) (oi := ⟨_, _, _, _, _, _⟩) (v := .agg (nameL nm).toArray) rfl (by kernel_rfl) (by kernel_rfl) (by kernel_rfl) (fun _ _ _ h => h) (yieldsIf_mid 28 (.tmp 12) rfl w.heap.size 4 rfl (nameL nm) _ (fun w' hSw => (HRG.out w' hSw).2) Tryd.underlying28 rfl (by rw [nameL_len, HA.out]; exact infoName) ?_) KS ?_
  · rfl
  try simp only [Act.put, List.setIfInBounds_toArray, List.set_cons_zero, List.set_cons_succ]
  refine wpAnyH_ready (rs := [5, 9]) (by kernel_rfl) (by simp) ?_
  refine AllReadyH.cons (o := ⟨_, _, _, _, _, _⟩) rfl (fun K hK => ?_) (AllReadyH.cons (o := ⟨_, _, _, _, _, _⟩) rfl (fun K hK => ?_) AllReadyH.nil)
  go_simp
  refine (getN_any p s nm HA.out _ (HRG.out _ KS).1).mono ?_
  rintro e w2 ⟨rfl, kk⟩
  rw [cellsO_eq, HE.out, HH.out, HVN.out]
  have K2 := Lib.hid (KS.then kk (by simp))
  clear kk
  go_wp2_with fail
  refine hK.out _ _ K2.out (fun _ => ?_)
  clear hK K
  try simp only [Act.put, List.setIfInBounds_toArray, List.set_cons_zero, List.set_cons_succ]
  refine wpAnyH_take (i := 6) (oi := ⟨_, _, _, _, _, _⟩) (v := ?_) rfl (by kernel_rfl) (by kernel_rfl) (by kernel_rfl) (fun _ _ _ h => h) (Or.inl ⟨by rfl, ?_⟩) K2.out ?_
  rotate_left
  · intro w' hSw; (go_simp; try with_reducible rfl)
  try simp only [Act.put, List.setIfInBounds_toArray, List.set_cons_zero, List.set_cons_succ]
  refine wpAnyH_take (i := 7) (oi := ⟨_, _, _, _, _, _⟩) (v := ?_) rfl (by kernel_rfl) (by kernel_rfl) (by kernel_rfl) (fun _ _ _ h => h) (Or.inl ⟨by rfl, ?_⟩) K2.out ?_
  rotate_left
  · intro w' hSw; (go_simp; try with_reducible rfl)
  try simp only [Act.put, List.setIfInBounds_toArray, List.set_cons_zero, List.set_cons_succ]
  refine wpAnyH_take (i := 8) (oi := ⟨_, _, _, _, _, _⟩) (v := ?_) rfl (by kernel_rfl) (by kernel_rfl) (by kernel_rfl) (fun _ _ _ h => h) (Or.inl ⟨by rfl, ?_⟩) K2.out ?_
  rotate_left
  · intro w' hSw; (go_simp; try with_reducible rfl)
  try simp only [Act.put, List.setIfInBounds_toArray, List.set_cons_zero, List.set_cons_succ]
  refine wpAnyH_ready (rs := [9]) (by kernel_rfl) (by simp) ?_
  refine AllReadyH.cons (o := ⟨_, _, _, _, _, _⟩) rfl (fun K hK => ?_) AllReadyH.nil
  go_simp
  refine hK.out _ _ (K2.out.alloc (.cells #[.int .i64 0, .slice none 0 0] 72)) (fun _ => ?_)
  clear hK K
  try simp only [Act.put, List.setIfInBounds_toArray, List.set_cons_zero, List.set_cons_succ]
  have RQ := Lib.hid (rowAt.new w2 72 #[.int .i64 0, .slice none 0 0])
  have KQ := Lib.hid (And.intro (K2.out.alloc (.cells #[.int .i64 0, .slice none 0 0] 72)) (show w1.heap.size ≤ w2.heap.size from K2.out.size))
  obtain ⟨d, hd⟩ : ∃ d, w2.heap.size = d := ⟨_, rfl⟩
  rw [hd] at RQ KQ ⊢
  generalize w2.alloc (.cells #[.int .i64 0, .slice none 0 0] 72) = W at *
  clear hd
  rotate_left
  go_simp
  refine hK.out _ _ (KS.alloc (.cells #[.int .i64 0, .slice none 0 0] 72)) (fun _ => ?_)
  clear hK K
  try simp only [Act.put, List.setIfInBounds_toArray, List.set_cons_zero, List.set_cons_succ]
  refine wpAnyH_ready (rs := [5]) (by kernel_rfl) (by simp) ?_
  refine AllReadyH.cons (o := ⟨_, _, _, _, _, _⟩) rfl (fun K hK => ?_) AllReadyH.nil
  go_simp
  refine (getN_any p s nm HA.out _ (HRG.out _ (KS.alloc (.cells #[.int .i64 0, .slice none 0 0] 72))).1).mono ?_
  rintro e w2 ⟨rfl, kk⟩
  rw [cellsO_eq, HE.out, HH.out, HVN.out]
  have K2 := Lib.hid ((KS.alloc (.cells #[.int .i64 0, .slice none 0 0] 72)).then kk (by simp))
  have RQ := Lib.hid (kk.row (rowAt.new w1.drew 72 #[.int .i64 0, .slice none 0 0]) (by simp))
  clear kk
  go_wp2_with fail
  refine hK.out _ _ K2.out (fun _ => ?_)
  clear hK K
  try simp only [Act.put, List.setIfInBounds_toArray, List.set_cons_zero, List.set_cons_succ]
  have KQ := Lib.hid (And.intro K2.out (show w1.heap.size ≤ w1.drew.heap.size from Nat.le_refl _))
  refine wpAnyH_take (i := 6) (oi := ⟨_, _, _, _, _, _⟩) (v := ?_) rfl (by kernel_rfl) (by kernel_rfl) (by kernel_rfl) (fun _ _ _ h => h) (Or.inl ⟨by rfl, ?_⟩) K2.out ?_
  rotate_left
  · intro w' hSw; (go_simp; try with_reducible rfl)
  try simp only [Act.put, List.setIfInBounds_toArray, List.set_cons_zero, List.set_cons_succ]
  refine wpAnyH_take (i := 7) (oi := ⟨_, _, _, _, _, _⟩) (v := ?_) rfl (by kernel_rfl) (by kernel_rfl) (by kernel_rfl) (fun _ _ _ h => h) (Or.inl ⟨by rfl, ?_⟩) K2.out ?_
  rotate_left
  · intro w' hSw; (go_simp; try with_reducible rfl)
  try simp only [Act.put, List.setIfInBounds_toArray, List.set_cons_zero, List.set_cons_succ]
  refine wpAnyH_take (i := 8) (oi := ⟨_, _, _, _, _, _⟩) (v := ?_) rfl (by kernel_rfl) (by kernel_rfl) (by kernel_rfl) (fun _ _ _ h => h) (Or.inl ⟨by rfl, ?_⟩) K2.out ?_
  rotate_left
  · intro w' hSw; (go_simp; try with_reducible rfl)
  try simp only [Act.put, List.setIfInBounds_toArray, List.set_cons_zero, List.set_cons_succ]
  obtain ⟨d, hd⟩ : ∃ d, w1.drew.heap.size = d := ⟨_, rfl⟩
  rw [hd] at RQ KQ
  change w1.heap.size = d at hd
  rw [hd]
  clear hd
  generalize w2 = W at *
  all_goals (
    have c0 := RQ.out.cell 0
    have c1 := RQ.out.cell 1
    have f0 := RQ.out.free 0
    have f1 := RQ.out.free 1
    refine wpAnyH_ready (rs := [10]) (by kernel_rfl) (by simp) ?_
    refine AllReadyH.cons (o := ⟨_, _, _, _, _, _⟩) rfl (fun K hK => ?_) AllReadyH.nil
    go_simp
    refine hK.out _ _ ((KQ.out.1.setCell ⟨d, 0, none⟩ _ (.inr KQ.out.2)).setCell ⟨d, 1, none⟩ _ (.inr KQ.out.2)) (fun _ => ?_)
    clear hK K
    try simp only [Act.put, List.setIfInBounds_toArray, List.set_cons_zero, List.set_cons_succ]
    refine wpAnyH_take (i := 11) (oi := ⟨_, _, _, _, _, _⟩) (v := ?_) rfl (by kernel_rfl) (by kernel_rfl) (by kernel_rfl) (fun _ _ _ h => h) (Or.inl ⟨by rfl, ?_⟩) ((KQ.out.1.setCell ⟨d, 0, none⟩ (.int .i64 vn) (.inr KQ.out.2)).setCell ⟨d, 1, none⟩ (.slice A0 (envN s nm).length cE) (.inr KQ.out.2)) ?_
    rotate_left
    · intro w' hSw; (go_simp; try with_reducible rfl)
    try simp only [Act.put, List.setIfInBounds_toArray, List.set_cons_zero, List.set_cons_succ]
    refine wpAnyH_done (by kernel_rfl) ?_ _
    clear c0 c1 f0 f1
    have r5 := (RQ.out.set 0 (.int .i64 vn)).set 1 (.slice A0 (envN s nm).length cE)
    have k5 := (KQ.out.1.setCell ⟨d, 0, none⟩ (.int .i64 vn) (.inr KQ.out.2)).setCell ⟨d, 1, none⟩ (.slice A0 (envN s nm).length cE) (.inr KQ.out.2)
    go_upto_region 2 with fail
    generalize (W.setCell ⟨d, 0, none⟩ (.int .i64 vn)).setCell ⟨d, 1, none⟩ (.slice A0 (envN s nm).length cE) = W5 at *
    have K5 := Lib.hid k5
    have RA := Lib.hid (k5.row HQ.out.1 (by simp))
    have HC2 : Hid (∀ V, keepBut (q :: p :: (homes s.kv ++ homes s.vv)) W5 V → V.cell? ⟨d, 0, none⟩ = some (.int .i64 vn) ∧ V.cell? ⟨d, 1, none⟩ = some (.slice A0 (envN s nm).length cE) ∧ V.cell? ⟨w.heap.size, 3, none⟩ = some (.int .i64 vr) ∧ V.cell? ⟨w.heap.size, 36, none⟩ = some ev ∧ V.rangeAt w.heap.size 4 (nameL nm)) := Lib.hid (fun V k => by
      have hfar : ∀ x ∈ q :: p :: (homes s.kv ++ homes s.vv), x < w.heap.size := fun x hx => by
        rcases List.mem_cons.1 hx with rfl | hx
        · exact HQ.out.2.2.2
        · rcases List.mem_cons.1 hx with rfl | hx
          · exact H0.out.1.row.lt
          · rcases List.mem_append.1 hx with hx | hx
            · exact H0.out.1.kown.lt _ hx
            · exact H0.out.1.vown.lt _ hx
      have hdq : d ∉ q :: p :: (homes s.kv ++ homes s.vv) := fun hm => by have := hfar _ hm; have := KQ.out.2; have := HK.out.size; omega
      have hwq : w.heap.size ∉ q :: p :: (homes s.kv ++ homes s.vv) := fun hm => Nat.lt_irrefl _ (hfar _ hm)
      have hr := k.row (K5.out.row HX.out.2.2 (by simp)) hwq
      exact ⟨(k.row r5 hdq).cell 0, (k.row r5 hdq).cell 1, (hr.cell 3).trans HX.out.1, (hr.cell 36).trans HX.out.2.1, hr.range (by rw [← H0.out.2.2.2.2.2, ← HNM.out]; exact rqL_name r ev)⟩)
    have HT5 := Lib.hid (And.intro (HT.out.over K5.out) (HV.out.1.keep K5.out (by simp)))
    clear r5 k5
    have y0 := (HC2.out W5 (keepBut.refl _ _)).1
    have y3 := (HC2.out W5 (keepBut.refl _ _)).2.2.1
    have hw := HB.out
    have he := HC.out
    go_upto_region 3 with fail
    clear y0 y3 hw he
    have KT : keepBut [q] W5 W5.drew := (keepBut.refl [q] W5).drew
    refine wp_region_held_drew (S := fun V => keepBut [q] W5 V) (by kernel_rfl) KT (fun _ => ?_)
    refine wpAnyH_take (i := 0) (oi := ⟨_, _, _, _, _, _⟩) (v := ?_) rfl (by kernel_rfl) (by kernel_rfl) (by kernel_rfl) (fun _ _ _ h => h) (Or.inl ⟨by rfl, ?_⟩) KT ?_
    rotate_left
    · intro w' hSw; (go_simp; try with_reducible rfl)
    try simp only [Act.put, List.setIfInBounds_toArray, List.set_cons_zero, List.set_cons_succ]
    refine wpAnyH_take (i := 1) (oi := ⟨_, _, _, _, _, _⟩) (v := ?_) rfl (by kernel_rfl) (by kernel_rfl) (by kernel_rfl) (fun _ _ _ h => h) (Or.inl ⟨by rfl, ?_⟩) KT ?_
    rotate_left
    · intro w' hSw; (go_simp; try with_reducible rfl)
    try simp only [Act.put, List.setIfInBounds_toArray, List.set_cons_zero, List.set_cons_succ]
    refine wpAnyH_take (i := 2) (oi := ⟨_, _, _, _, _, _⟩) (v := ?_) rfl (by kernel_rfl) (by kernel_rfl) (by kernel_rfl) (fun _ _ _ h => h) (Or.inl ⟨by rfl, ?_⟩) KT ?_
    rotate_left
    · intro w' hSw; (go_simp; try with_reducible rfl)
    try simp only [Act.put, List.setIfInBounds_toArray, List.set_cons_zero, List.set_cons_succ]
    refine wpAnyH_take (i := 3) (oi := ⟨_, _, _, _, _, _⟩) (v := ?_) rfl (by kernel_rfl) (by kernel_rfl) (by kernel_rfl) (fun _ _ _ h => h) (Or.inl ⟨by rfl, ?_⟩) KT ?_
    rotate_left
    · intro w' hSw; (go_simp; try with_reducible rfl)
    try simp only [Act.put, List.setIfInBounds_toArray, List.set_cons_zero, List.set_cons_succ]
    refine wpAnyH_take (i := 4) (oi := ⟨_, _, _, _, _, _⟩) (v := ?_) rfl (by kernel_rfl) (by kernel_rfl) (by kernel_rfl) (fun _ _ _ h => h) (Or.inl ⟨by rfl, ?_⟩) KT ?_
    rotate_left
    · intro w' hSw; have hy := (HC2.out w' (hSw.more (by simp))).1; (go_simp; try with_reducible rfl)
    try simp only [Act.put, List.setIfInBounds_toArray, List.set_cons_zero, List.set_cons_succ]
    refine wpAnyH_take (i := 5) (oi := ⟨_, _, _, _, _, _⟩) (v := ?_) rfl (by kernel_rfl) (by kernel_rfl) (by kernel_rfl) (fun _ _ _ h => h) (Or.inl ⟨by rfl, ?_⟩) KT ?_
    rotate_left
    · intro w' hSw; (go_simp; try with_reducible rfl)
    try simp only [Act.put, List.setIfInBounds_toArray, List.set_cons_zero, List.set_cons_succ]
    refine wpAnyH_take (i := 6) (oi := ⟨_, _, _, _, _, _⟩) (v := ?_) rfl (by kernel_rfl) (by kernel_rfl) (by kernel_rfl) (fun _ _ _ h => h) (Or.inl ⟨by rfl, ?_⟩) KT ?_
    rotate_left
    · intro w' hSw; have hy := (HC2.out w' (hSw.more (by simp))).2.1; (go_simp; try with_reducible rfl)
    try simp only [Act.put, List.setIfInBounds_toArray, List.set_cons_zero, List.set_cons_succ]
    refine wpAnyH_ready (rs := [7]) (by kernel_rfl) (by simp) ?_
    refine AllReadyH.cons (o := ⟨_, _, _, _, _, _⟩) rfl (fun K hK => ?_) AllReadyH.nil
    go_simp
    refine (cloneB_any s.F _ (envN s nm) _ (HT5.out.2.keep ((keepBut.refl [] W5).drew) (by simp)) (by have := HV.out.2; omega)).mono ?_
    rintro e w7 ⟨v7, G, rfl, n7⟩
    obtain ⟨A7, c7, g7, rfl, _⟩ := id n7.1
    have N7 := Lib.hid n7
    have K7 := Lib.hid (KT.then n7.2.2.2 (by simp))
    have R7 := Lib.hid (n7.2.2.2.row (show rowAt W5.drew q 40 _ from RA.out) (by simp))
    clear n7
    go_wp2_with fail
    refine hK.out _ _ K7.out (fun _ => ?_)
    clear hK K
    try simp only [Act.put, List.setIfInBounds_toArray, List.set_cons_zero, List.set_cons_succ]
    refine wpAnyH_take (i := 8) (oi := ⟨_, _, _, _, _, _⟩) (v := ?_) rfl (by kernel_rfl) (by kernel_rfl) (by kernel_rfl) (fun _ _ _ h => h) (Or.inl ⟨by rfl, ?_⟩) K7.out ?_
    rotate_left
    · intro w' hSw; (go_simp; try with_reducible rfl)
    try simp only [Act.put, List.setIfInBounds_toArray, List.set_cons_zero, List.set_cons_succ]
    refine wpAnyH_take (i := 9) (oi := ⟨_, _, _, _, _, _⟩) (v := ?_) rfl (by kernel_rfl) (by kernel_rfl) (by kernel_rfl) (fun _ _ _ h => h) (Or.inl ⟨by rfl, ?_⟩) K7.out ?_
    rotate_left
    · intro w' hSw; (go_simp; try with_reducible rfl)
    try simp only [Act.put, List.setIfInBounds_toArray, List.set_cons_zero, List.set_cons_succ]
    have y2 : w7.cell? ⟨q, 2, none⟩ = some (.int .i64 a.code) := R7.out.cell 2
    have f2 := R7.out.free 2
    refine wpAnyH_ready (rs := [10]) (by kernel_rfl) (by simp) ?_
    refine AllReadyH.cons (o := ⟨_, _, _, _, _, _⟩) rfl (fun K hK => ?_) AllReadyH.nil
    go_simp
    refine hK.out _ _ (K7.out.setCell ⟨q, 2, none⟩ _ (.inl (by simp))) (fun _ => ?_)
    clear hK K
    try simp only [Act.put, List.setIfInBounds_toArray, List.set_cons_zero, List.set_cons_succ]
    have r8 : rowAt (w7.setCell ⟨q, 2, none⟩ (.int .i64 2)) q 40 (anL { a with code := 2 } nilV).toArray := R7.out.set 2 _
    have k8 : keepBut [q] W5 (w7.setCell ⟨q, 2, none⟩ (.int .i64 2)) := K7.out.setCell _ _ (.inl (by simp))
    have b8 := kset w7 q 2 (.int .i64 2)
    clear y2 f2
    generalize w7.setCell ⟨q, 2, none⟩ (.int .i64 2) = w8 at *
    have y3 : w8.cell? ⟨q, 3, none⟩ = some (.int .i64 a.version) := r8.cell 3
    have f3 := r8.free 3
    refine wpAnyH_take (i := 11) (oi := ⟨_, _, _, _, _, _⟩) (v := ?_) rfl (by kernel_rfl) (by kernel_rfl) (by kernel_rfl) (fun _ _ _ h => h) (Or.inl ⟨by rfl, ?_⟩) k8 ?_
    rotate_left
    · intro w' hSw; (go_simp; try with_reducible rfl)
    try simp only [Act.put, List.setIfInBounds_toArray, List.set_cons_zero, List.set_cons_succ]
    refine wpAnyH_take (i := 12) (oi := ⟨_, _, _, _, _, _⟩) (v := ?_) rfl (by kernel_rfl) (by kernel_rfl) (by kernel_rfl) (fun _ _ _ h => h) (Or.inl ⟨by rfl, ?_⟩) k8 ?_
    rotate_left
    · intro w' hSw; (go_simp; try with_reducible rfl)
    try simp only [Act.put, List.setIfInBounds_toArray, List.set_cons_zero, List.set_cons_succ]
    refine wpAnyH_ready (rs := [13]) (by kernel_rfl) (by simp) ?_
    refine AllReadyH.cons (o := ⟨_, _, _, _, _, _⟩) rfl (fun K hK => ?_) AllReadyH.nil
    go_simp
    refine hK.out _ _ (k8.setCell ⟨q, 3, none⟩ _ (.inl (by simp))) (fun _ => ?_)
    clear hK K
    try simp only [Act.put, List.setIfInBounds_toArray, List.set_cons_zero, List.set_cons_succ]
    have r9 : rowAt (w8.setCell ⟨q, 3, none⟩ (.int .i64 vn)) q 40 (anL { a with code := 2, version := vn } nilV).toArray := r8.set 3 _
    have k9 : keepBut [q] W5 (w8.setCell ⟨q, 3, none⟩ (.int .i64 vn)) := k8.setCell _ _ (.inl (by simp))
    have b9 := b8.then (kset w8 q 3 (.int .i64 vn)) (fun x hx => .inl hx)
    clear y3 f3 b8 r8 k8
    generalize w8.setCell ⟨q, 3, none⟩ (.int .i64 vn) = w9 at *
    have y37 : w9.cell? ⟨q, 37, none⟩ = some (.slice none 0 0) := (r9.cell 37).trans (anL_env HQ.out.2.1)
    have f37 := r9.free 37
    refine wpAnyH_take (i := 14) (oi := ⟨_, _, _, _, _, _⟩) (v := ?_) rfl (by kernel_rfl) (by kernel_rfl) (by kernel_rfl) (fun _ _ _ h => h) (Or.inl ⟨by rfl, ?_⟩) k9 ?_
    rotate_left
    · intro w' hSw; (go_simp; try with_reducible rfl)
    try simp only [Act.put, List.setIfInBounds_toArray, List.set_cons_zero, List.set_cons_succ]
    refine wpAnyH_take (i := 15) (oi := ⟨_, _, _, _, _, _⟩) (v := ?_) rfl (by kernel_rfl) (by kernel_rfl) (by kernel_rfl) (fun _ _ _ h => h) (Or.inl ⟨by rfl, ?_⟩) k9 ?_
    rotate_left
    · intro w' hSw; (go_simp; try with_reducible rfl)
    try simp only [Act.put, List.setIfInBounds_toArray, List.set_cons_zero, List.set_cons_succ]
    refine wpAnyH_ready (rs := [16]) (by kernel_rfl) (by simp) ?_
    refine AllReadyH.cons (o := ⟨_, _, _, _, _, _⟩) rfl (fun K hK => ?_) AllReadyH.nil
    go_simp
    refine hK.out _ _ (k9.setCell ⟨q, 37, none⟩ _ (.inl (by simp))) (fun _ => ?_)
    clear hK K
    try simp only [Act.put, List.setIfInBounds_toArray, List.set_cons_zero, List.set_cons_succ]
    refine wpAnyH_done (by kernel_rfl) ?_ _
    go_wp2_with fail
    go_end0
    have rA := r9.set 37 (.slice A7 (envN s nm).length c7)
    rw [anL_set (a := { a with code := 2, version := vn }) HQ.out.2.1] at rA
    have bA := kset w9 q 37 (.slice A7 (envN s nm).length c7)
    have e1 : aPut s.pure r a = (s.pure, { a with code := 2, version := vn, env := envN s nm }) := by
      unfold aPut
      rw [ver_pure, hit_pure, env_pure, HNM.out, HVN.out, HVR.out, HH.out, if_neg (by
        rintro ⟨h1, h2⟩
        exact HC.out h1)]
    have hGk : ∀ y ∈ G, y ∉ [q] := fun y hy => by have h1 := (N7.out.2.2.1 y hy).1; have h2 := HQ.out.2.2.2; have h3 : W5.drew.heap.size = W5.heap.size := rfl; have s5 := (HK.out.then K5.out (by simp)).size; simp; omega
    have b79 := b9.then bA (fun x hx => .inl hx)
    have s5 := (HK.out.then K5.out (by simp)).size
    have kk : keepBut [q] w (w9.setCell ⟨q, 37, none⟩ (.slice A7 (envN s nm).length c7)) := (((HK.out.then K5.out (by simp)).more (by simp)).then k9 (fun x hx => .inl hx)).then bA (fun x hx => .inl hx)
    rw [e1]
    refine ⟨rfl, ⟨s, H0.out.1.keepQ H0.out.2.2.1 H0.out.2.2.2.1 kk, rfl, rfl, rfl, fun y hy => .inl hy, fun y hy => .inl hy⟩, ⟨.slice A7 (envN s nm).length c7, G, rA, N7.out.1.keep b79 hGk, fun y hy => ?_, fun y hy => ⟨by have h1 := (N7.out.2.2.1 y hy).1; have h3 : W5.drew.heap.size = W5.heap.size := rfl; omega, by have h1 := (N7.out.2.2.1 y hy).2; have h2 := b79.size; omega⟩⟩, kk.more (by simp)⟩
    obtain ⟨cs, hc⟩ := N7.out.2.1 y hy
    exact ⟨cs, b79.row hc (hGk y hy)⟩)
theorem actPut_any (p q : Nat) (s : TS) (F : List Nat) (r : RQ) (ev : Value) (a : AN) (w : World) (h : isT w p s) (hr : rqV w F r ev) (hq : rowAt w q 40 (anL a nilV).toArray) (hqa : q ∉ homes s.av) (han : a.name.length = 32) (hae : a.env = []) (hb : IntKind.i64.wrap (verN s r.name + 1) = verN s r.name + 1) (hel : r.env.length ≤ 1000) :
    Calls Tryd.prog 53 #[.pointer (some ⟨p, 0, none⟩), .agg (rqL r ev).toArray, .pointer (some ⟨q, 0, none⟩)] w (actDone p q s (aPut s.pure r a) w) := by
  by_cases he : r.version = verN s r.name + 1
  · rcases Bool.eq_false_or_eq_true (hitN s r.name) with hh | hh
    · exact actPut_he p q s F r ev a w h hr hq hqa han hae hb hel hh he
    · by_cases hn : s.objs.length < 64
      · exact actPut_mer p q s F r ev a w h hr hq hqa han hae hb hel hh he hn
      · exact actPut_mef p q s F r ev a w h hr hq hqa han hae hb hel hh he hn
  · rcases Bool.eq_false_or_eq_true (hitN s r.name) with hh | hh
    · exact actPut_hn p q s F r ev a w h hr hq hqa han hae hb hel hh he
    · exact actPut_mn p q s F r ev a w h hr hq hqa han hae hb hel hh he
end Go.Proofs.YtmlmhnhilemjhaaDoor
