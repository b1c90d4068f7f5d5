/-
  TABLE, 20: the act get.
-/
import Derived.Test.YtmlmhnhilemjhaaDoorTB19
namespace Go.Proofs.YtmlmhnhilemjhaaDoor
open Go.RowKit
set_option linter.unusedVariables false
set_option maxRecDepth 100000
set_option linter.unusedSimpArgs false

theorem isT.keepQ {w w' : World} {p q : Nat} {s : TS} {cs : Array Value} (h : isT w p s) (hq : rowAt w q 40 cs) (ha : q ∉ homes s.av) (k : keepBut [q] w w') : isT w' p s := by
  have ap : ∀ {g : Nat} {t : TypeId} {ds : Array Value}, rowAt w g t ds → t ≠ 40 → g ∉ [q] := fun hr hne => by simp only [List.mem_singleton]; exact hr.apart hq hne
  have ow : ∀ {v : Value}, q ∉ homes v → ∀ x ∈ homes v, x ∉ [q] := fun hv x hx => by simp only [List.mem_singleton]; rintro rfl; exact hv hx
  have hF : ∀ y ∈ s.F, y ∉ [q] := fun y hy => by
    obtain ⟨ds, hc⟩ := h.blocks y hy
    exact ap hc (by decide)
  exact ⟨k.row h.row (ap h.row (by decide)), h.kown.keep k (ow (h.kown.apart hq (by decide))), h.vown.keep k (ow (h.vown.apart hq (by decide))), h.iown.keep k (ow (h.iown.apart hq (by decide))), h.aown.keep k (ow ha), h.names, h.clients, h.small, h.few, h.sortN, h.sortI, h.ansN,
    fun b hb => (h.envO b hb).keep k hF, fun b hb => (h.envA b hb).keep k hF, fun y hy => let ⟨ds, hc⟩ := h.blocks y hy; ⟨ds, k.row hc (hF y hy)⟩, h.lensO, h.lensA⟩
def actGet (s : TS) (r : RQ) (a : AN) : AN := if hitN s r.name = true then { a with version := verN s r.name, env := envN s r.name } else { a with code := 1 }
/-- an act has filled in the answer at q -/
def actPost (q : Nat) (a : AN) (w : World) (e : Ending) (w' : World) : Prop :=
  ∃ v G, e = .returned (.tuple #[]) ∧ rowAt w' q 40 (anL a v).toArray ∧ bytesV w' G v a.env ∧ u8rows w' G ∧ (∀ y ∈ G, w.heap.size ≤ y ∧ y < w'.heap.size) ∧ keepBut [q] w w'
set_option maxHeartbeats 8000000 in
theorem actGet_no (p q : Nat) (s : TS) (F : List Nat) (r : RQ) (ev : Value) (a : AN) (w : World) (h : isT w p s) (hr : rqV w F r ev) (hq : rowAt w q 40 (anL a nilV).toArray) (han : a.name.length = 32) (hae : a.env = []) (hh : hitN s r.name = false) :
    Calls Tryd.prog 52 #[.pointer (some ⟨p, 0, none⟩), .agg (rqL r ev).toArray, .pointer (some ⟨q, 0, none⟩)] w (actPost q (actGet s r a) w) := by
  obtain ⟨X, hX⟩ : ∃ X, rqL r ev = X := ⟨_, rfl⟩
  have hXn : ∀ j v, (nameL r.name)[j]? = some v → X.toArray[4 + j]? = some v := by rw [← hX]; exact rqL_name r ev
  rw [hX]
  obtain ⟨w1, hw1⟩ : ∃ w1, w.alloc (.cells X.toArray 31) = w1 := ⟨_, rfl⟩
  have r1 : rowAt w1 w.heap.size 31 X.toArray := hw1 ▸ rowAt.new _ _ _
  have k1 : keepBut [] w w1 := hw1 ▸ (keepBut.refl [] w).alloc _
  have HW1 := Lib.hid hw1
  have HRG : Hid (∀ W, keepBut [] w1 W → isT W p s ∧ W.rangeAt w.heap.size 4 (nameL r.name)) := Lib.hid (fun W k => ⟨(h.over k1).over k, (k.row r1 (by simp)).range hXn⟩)
  have HT := Lib.hid (h.over k1)
  have HK := Lib.hid k1
  have HA := Lib.hid hr.1
  have HQ := Lib.hid (And.intro (k1.row hq (by simp)) (And.intro han (And.intro hae hq.lt)))
  have HH := Lib.hid hh
  obtain ⟨hev, hel⟩ := h.evN r.name
  obtain ⟨A0, cE, g0, hE, _⟩ := id hev
  rw [hE] at hev
  have HE := Lib.hid hE
  have HV := Lib.hid (And.intro (hev.keep k1 (by simp)) hel)
  clear hw1 r1 k1 h hE hev hel hX hXn hr hq han hae hh
  generalize hnm : r.name = nm at *
  have HNM := Lib.hid hnm
  clear hnm
  go_enter Tryd.func52, Tryd.ntmps52
  go_upto_region 1 with (with_reducible refine wpList_box_to _ _ rfl 31 (.tmp 1) rfl _ rfl HW1.out ?_)
  have KS : keepBut [] w1 w1.drew := (keepBut.refl [] w1).drew
  refine wp_region_held_drew (S := fun W => keepBut [] w1 W) (by kernel_rfl) KS (fun _ => ?_)
  refine wpAnyH_take (i := 0) (oi := ⟨_, _, _, _, _, _⟩) (v := ?_) rfl (by kernel_rfl) (by kernel_rfl) (by kernel_rfl) (fun _ _ _ h => h) (Or.inl ⟨by rfl, ?_⟩) KS ?_
  rotate_left
  · intro w' hSw; (go_simp; try with_reducible rfl)
  try simp only [Act.put, List.setIfInBounds_toArray, List.set_cons_zero, List.set_cons_succ]
  refine wpAnyH_take (i := 1) (oi := ⟨_, _, _, _, _, _⟩) (v := ?_) rfl (by kernel_rfl) (by kernel_rfl) (by kernel_rfl) (fun _ _ _ h => h) (Or.inl ⟨by rfl, ?_⟩) KS ?_
  rotate_left
  · intro w' hSw; (go_simp; try with_reducible rfl)
  try simp only [Act.put, List.setIfInBounds_toArray, List.set_cons_zero, List.set_cons_succ]
  refine wpAnyH_take (i := 2) (oi := ⟨_, _, _, _, _, _⟩) (v := ?_) rfl (by kernel_rfl) (by kernel_rfl) (by kernel_rfl) (fun _ _ _ h => h) (Or.inl ⟨by rfl, ?_⟩) KS ?_
  rotate_left
  · intro w' hSw; (go_simp; try with_reducible rfl)
  try simp only [Act.put, List.setIfInBounds_toArray, List.set_cons_zero, List.set_cons_succ]
  refine wpAnyH_take (i := 3) (oi := ⟨_, _, _, _, _, _⟩) (v := ?_) rfl (by kernel_rfl) (by kernel_rfl) (by kernel_rfl) (fun _ _ _ h => h) (Or.inl ⟨by rfl, ?_⟩) KS ?_
  rotate_left
  · intro w' hSw; (go_simp; try with_reducible rfl)
  try simp only [Act.put, List.setIfInBounds_toArray, List.set_cons_zero, List.set_cons_succ]
  refine wpAnyH_take (i := 4) (oi := ⟨_, _, _, _, _, _⟩) (v := .agg (nameL nm).toArray) rfl (by kernel_rfl) (by kernel_rfl) (by kernel_rfl) (fun _ _ _ h => h) (yieldsIf_mid 28 (.tmp 12) rfl w.heap.size 4 rfl (nameL nm) _ (fun w' hSw => (HRG.out w' hSw).2) Tryd.underlying28 rfl (by rw [nameL_len, HA.out]; exact infoName) ?_) KS ?_
  · rfl
  try simp only [Act.put, List.setIfInBounds_toArray, List.set_cons_zero, List.set_cons_succ]
  refine wpAnyH_ready (rs := [5, 9]) (by kernel_rfl) (by simp) ?_
  refine AllReadyH.cons (o := ⟨_, _, _, _, _, _⟩) rfl (fun K hK => ?_) (AllReadyH.cons (o := ⟨_, _, _, _, _, _⟩) rfl (fun K hK => ?_) AllReadyH.nil)
  go_simp
  refine (getN_any p s nm HA.out _ (HRG.out _ KS).1).mono ?_
  rintro e w2 ⟨rfl, kk⟩
  rw [cellsO_eq, HE.out, HH.out]
  have K2 := Lib.hid (KS.then kk (by simp))
  clear kk
  go_wp2_with fail
  refine hK.out _ _ K2.out (fun _ => ?_)
  clear hK K
  try simp only [Act.put, List.setIfInBounds_toArray, List.set_cons_zero, List.set_cons_succ]
  refine wpAnyH_take (i := 6) (oi := ⟨_, _, _, _, _, _⟩) (v := ?_) rfl (by kernel_rfl) (by kernel_rfl) (by kernel_rfl) (fun _ _ _ h => h) (Or.inl ⟨by rfl, ?_⟩) K2.out ?_
  rotate_left
  · intro w' hSw; (go_simp; try with_reducible rfl)
  try simp only [Act.put, List.setIfInBounds_toArray, List.set_cons_zero, List.set_cons_succ]
  refine wpAnyH_take (i := 7) (oi := ⟨_, _, _, _, _, _⟩) (v := ?_) rfl (by kernel_rfl) (by kernel_rfl) (by kernel_rfl) (fun _ _ _ h => h) (Or.inl ⟨by rfl, ?_⟩) K2.out ?_
  rotate_left
  · intro w' hSw; (go_simp; try with_reducible rfl)
  try simp only [Act.put, List.setIfInBounds_toArray, List.set_cons_zero, List.set_cons_succ]
  refine wpAnyH_take (i := 8) (oi := ⟨_, _, _, _, _, _⟩) (v := ?_) rfl (by kernel_rfl) (by kernel_rfl) (by kernel_rfl) (fun _ _ _ h => h) (Or.inl ⟨by rfl, ?_⟩) K2.out ?_
  rotate_left
  · intro w' hSw; (go_simp; try with_reducible rfl)
  try simp only [Act.put, List.setIfInBounds_toArray, List.set_cons_zero, List.set_cons_succ]
  refine wpAnyH_ready (rs := [9]) (by kernel_rfl) (by simp) ?_
  refine AllReadyH.cons (o := ⟨_, _, _, _, _, _⟩) rfl (fun K hK => ?_) AllReadyH.nil
  go_simp
  refine hK.out _ _ (K2.out.alloc (.cells #[.int .i64 0, .slice none 0 0] 72)) (fun _ => ?_)
  clear hK K
  try simp only [Act.put, List.setIfInBounds_toArray, List.set_cons_zero, List.set_cons_succ]
  have RQ := Lib.hid (rowAt.new w2 72 #[.int .i64 0, .slice none 0 0])
  have KQ := Lib.hid (And.intro (K2.out.alloc (.cells #[.int .i64 0, .slice none 0 0] 72)) (show w1.heap.size ≤ w2.heap.size from K2.out.size))
  obtain ⟨d, hd⟩ : ∃ d, w2.heap.size = d := ⟨_, rfl⟩
  rw [hd] at RQ KQ ⊢
  generalize w2.alloc (.cells #[.int .i64 0, .slice none 0 0] 72) = W at *
  clear hd
  rotate_left
  go_simp
  refine hK.out _ _ (KS.alloc (.cells #[.int .i64 0, .slice none 0 0] 72)) (fun _ => ?_)
  clear hK K
  try simp only [Act.put, List.setIfInBounds_toArray, List.set_cons_zero, List.set_cons_succ]
  refine wpAnyH_ready (rs := [5]) (by kernel_rfl) (by simp) ?_
  refine AllReadyH.cons (o := ⟨_, _, _, _, _, _⟩) rfl (fun K hK => ?_) AllReadyH.nil
  go_simp
  refine (getN_any p s nm HA.out _ (HRG.out _ (KS.alloc (.cells #[.int .i64 0, .slice none 0 0] 72))).1).mono ?_
  rintro e w2 ⟨rfl, kk⟩
  rw [cellsO_eq, HE.out, HH.out]
  have K2 := Lib.hid ((KS.alloc (.cells #[.int .i64 0, .slice none 0 0] 72)).then kk (by simp))
  have RQ := Lib.hid (kk.row (rowAt.new w1.drew 72 #[.int .i64 0, .slice none 0 0]) (by simp))
  clear kk
  go_wp2_with fail
  refine hK.out _ _ K2.out (fun _ => ?_)
  clear hK K
  try simp only [Act.put, List.setIfInBounds_toArray, List.set_cons_zero, List.set_cons_succ]
  have KQ := Lib.hid (And.intro K2.out (show w1.heap.size ≤ w1.drew.heap.size from Nat.le_refl _))
  refine wpAnyH_take (i := 6) (oi := ⟨_, _, _, _, _, _⟩) (v := ?_) rfl (by kernel_rfl) (by kernel_rfl) (by kernel_rfl) (fun _ _ _ h => h) (Or.inl ⟨by rfl, ?_⟩) K2.out ?_
  rotate_left
  · intro w' hSw; (go_simp; try with_reducible rfl)
  try simp only [Act.put, List.setIfInBounds_toArray, List.set_cons_zero, List.set_cons_succ]
  refine wpAnyH_take (i := 7) (oi := ⟨_, _, _, _, _, _⟩) (v := ?_) rfl (by kernel_rfl) (by kernel_rfl) (by kernel_rfl) (fun _ _ _ h => h) (Or.inl ⟨by rfl, ?_⟩) K2.out ?_
  rotate_left
  · intro w' hSw; (go_simp; try with_reducible rfl)
  try simp only [Act.put, List.setIfInBounds_toArray, List.set_cons_zero, List.set_cons_succ]
  refine wpAnyH_take (i := 8) (oi := ⟨_, _, _, _, _, _⟩) (v := ?_) rfl (by kernel_rfl) (by kernel_rfl) (by kernel_rfl) (fun _ _ _ h => h) (Or.inl ⟨by rfl, ?_⟩) K2.out ?_
  rotate_left
  · intro w' hSw; (go_simp; try with_reducible rfl)
  try simp only [Act.put, List.setIfInBounds_toArray, List.set_cons_zero, List.set_cons_succ]
  obtain ⟨d, hd⟩ : ∃ d, w1.drew.heap.size = d := ⟨_, rfl⟩
  rw [hd] at RQ KQ
  change w1.heap.size = d at hd
  rw [hd]
  clear hd
  generalize w2 = W at *
  all_goals (
    have c0 := RQ.out.cell 0
    have c1 := RQ.out.cell 1
    have f0 := RQ.out.free 0
    have f1 := RQ.out.free 1
    refine wpAnyH_ready (rs := [10]) (by kernel_rfl) (by simp) ?_
    refine AllReadyH.cons (o := ⟨_, _, _, _, _, _⟩) rfl (fun K hK => ?_) AllReadyH.nil
    go_simp
    refine hK.out _ _ ((KQ.out.1.setCell ⟨d, 0, none⟩ _ (.inr KQ.out.2)).setCell ⟨d, 1, none⟩ _ (.inr KQ.out.2)) (fun _ => ?_)
    clear hK K
    try simp only [Act.put, List.setIfInBounds_toArray, List.set_cons_zero, List.set_cons_succ]
    refine wpAnyH_take (i := 11) (oi := ⟨_, _, _, _, _, _⟩) (v := ?_) rfl (by kernel_rfl) (by kernel_rfl) (by kernel_rfl) (fun _ _ _ h => h) (Or.inl ⟨by rfl, ?_⟩) ((KQ.out.1.setCell ⟨d, 0, none⟩ (.int .i64 (verN s nm)) (.inr KQ.out.2)).setCell ⟨d, 1, none⟩ (.slice A0 (envN s nm).length cE) (.inr KQ.out.2)) ?_
    rotate_left
    · intro w' hSw; (go_simp; try with_reducible rfl)
    try simp only [Act.put, List.setIfInBounds_toArray, List.set_cons_zero, List.set_cons_succ]
    refine wpAnyH_done (by kernel_rfl) ?_ _
    clear c0 c1 f0 f1
    have r5 := (RQ.out.set 0 (.int .i64 (verN s nm))).set 1 (.slice A0 (envN s nm).length cE)
    have k5 := (KQ.out.1.setCell ⟨d, 0, none⟩ (.int .i64 (verN s nm)) (.inr KQ.out.2)).setCell ⟨d, 1, none⟩ (.slice A0 (envN s nm).length cE) (.inr KQ.out.2)
    go_upto_region 2 with fail
    generalize (W.setCell ⟨d, 0, none⟩ (.int .i64 (verN s nm))).setCell ⟨d, 1, none⟩ (.slice A0 (envN s nm).length cE) = W5 at *
    have K5 := Lib.hid k5
    have RA := Lib.hid (k5.row HQ.out.1 (by simp))
    have hy : W5.cell? ⟨q, 2, none⟩ = some (.int .i64 a.code) := RA.out.cell 2
    have hf := RA.out.free 2
    clear r5 k5
    go_wp2_with fail
    go_end0
    have e1 : actGet s r a = { a with code := 1 } := by unfold actGet; rw [HNM.out, if_neg (by rw [HH.out]; simp)]
    have r9 := RA.out.set 2 (.int .i64 1)
    have kq := kset W5 q 2 (.int .i64 1)
    refine ⟨nilV, [], rfl, by rw [e1]; exact r9, by rw [e1]; show bytesV _ _ _ a.env; rw [HQ.out.2.2.1]; exact bytesV.nil _ _, fun y hy => by simp at hy, by simp, ((HK.out.then K5.out (by simp)).more (by simp)).then kq (fun x hx => .inl hx)⟩)
set_option maxHeartbeats 8000000 in
theorem actGet_yes (p q : Nat) (s : TS) (F : List Nat) (r : RQ) (ev : Value) (a : AN) (w : World) (h : isT w p s) (hr : rqV w F r ev) (hq : rowAt w q 40 (anL a nilV).toArray) (han : a.name.length = 32) (hae : a.env = []) (hh : hitN s r.name = true) :
    Calls Tryd.prog 52 #[.pointer (some ⟨p, 0, none⟩), .agg (rqL r ev).toArray, .pointer (some ⟨q, 0, none⟩)] w (actPost q (actGet s r a) w) := by
  obtain ⟨X, hX⟩ : ∃ X, rqL r ev = X := ⟨_, rfl⟩
  have hXn : ∀ j v, (nameL r.name)[j]? = some v → X.toArray[4 + j]? = some v := by rw [← hX]; exact rqL_name r ev
  rw [hX]
  obtain ⟨w1, hw1⟩ : ∃ w1, w.alloc (.cells X.toArray 31) = w1 := ⟨_, rfl⟩
  have r1 : rowAt w1 w.heap.size 31 X.toArray := hw1 ▸ rowAt.new _ _ _
  have k1 : keepBut [] w w1 := hw1 ▸ (keepBut.refl [] w).alloc _
  have HW1 := Lib.hid hw1
  have HRG : Hid (∀ W, keepBut [] w1 W → isT W p s ∧ W.rangeAt w.heap.size 4 (nameL r.name)) := Lib.hid (fun W k => ⟨(h.over k1).over k, (k.row r1 (by simp)).range hXn⟩)
  have HT := Lib.hid (h.over k1)
  have HK := Lib.hid k1
  have HA := Lib.hid hr.1
  have HQ := Lib.hid (And.intro (k1.row hq (by simp)) (And.intro han (And.intro hae hq.lt)))
  have HH := Lib.hid hh
  obtain ⟨hev, hel⟩ := h.evN r.name
  obtain ⟨A0, cE, g0, hE, _⟩ := id hev
  rw [hE] at hev
  have HE := Lib.hid hE
  have HV := Lib.hid (And.intro (hev.keep k1 (by simp)) hel)
  clear hw1 r1 k1 h hE hev hel hX hXn hr hq han hae hh
  generalize hnm : r.name = nm at *
  have HNM := Lib.hid hnm
  clear hnm
  go_enter Tryd.func52, Tryd.ntmps52
  go_upto_region 1 with (with_reducible refine wpList_box_to _ _ rfl 31 (.tmp 1) rfl _ rfl HW1.out ?_)
  have KS : keepBut [] w1 w1.drew := (keepBut.refl [] w1).drew
  refine wp_region_held_drew (S := fun W => keepBut [] w1 W) (by kernel_rfl) KS (fun _ => ?_)
  refine wpAnyH_take (i := 0) (oi := ⟨_, _, _, _, _, _⟩) (v := ?_) rfl (by kernel_rfl) (by kernel_rfl) (by kernel_rfl) (fun _ _ _ h => h) (Or.inl ⟨by rfl, ?_⟩) KS ?_
  rotate_left
  · intro w' hSw; (go_simp; try with_reducible rfl)
  try simp only [Act.put, List.setIfInBounds_toArray, List.set_cons_zero, List.set_cons_succ]
  refine wpAnyH_take (i := 1) (oi := ⟨_, _, _, _, _, _⟩) (v := ?_) rfl (by kernel_rfl) (by kernel_rfl) (by kernel_rfl) (fun _ _ _ h => h) (Or.inl ⟨by rfl, ?_⟩) KS ?_
  rotate_left
  · intro w' hSw; (go_simp; try with_reducible rfl)
  try simp only [Act.put, List.setIfInBounds_toArray, List.set_cons_zero, List.set_cons_succ]
  refine wpAnyH_take (i := 2) (oi := ⟨_, _, _, _, _, _⟩) (v := ?_) rfl (by kernel_rfl) (by kernel_rfl) (by kernel_rfl) (fun _ _ _ h => h) (Or.inl ⟨by rfl, ?_⟩) KS ?_
  rotate_left
  · intro w' hSw; (go_simp; try with_reducible rfl)
  try simp only [Act.put, List.setIfInBounds_toArray, List.set_cons_zero, List.set_cons_succ]
  refine wpAnyH_take (i := 3) (oi := ⟨_, _, _, _, _, _⟩) (v := ?_) rfl (by kernel_rfl) (by kernel_rfl) (by kernel_rfl) (fun _ _ _ h => h) (Or.inl ⟨by rfl, ?_⟩) KS ?_
  rotate_left
  · intro w' hSw; (go_simp; try with_reducible rfl)
  try simp only [Act.put, List.setIfInBounds_toArray, List.set_cons_zero, List.set_cons_succ]
  refine wpAnyH_take (i := 4) (oi := ⟨_, _, _, _, _, _⟩) (v := .agg (nameL nm).toArray) rfl (by kernel_rfl) (by kernel_rfl) (by kernel_rfl) (fun _ _ _ h => h) (yieldsIf_mid 28 (.tmp 12) rfl w.heap.size 4 rfl (nameL nm) _ (fun w' hSw => (HRG.out w' hSw).2) Tryd.underlying28 rfl (by rw [nameL_len, HA.out]; exact infoName) ?_) KS ?_
  · rfl
  try simp only [Act.put, List.setIfInBounds_toArray, List.set_cons_zero, List.set_cons_succ]
  refine wpAnyH_ready (rs := [5, 9]) (by kernel_rfl) (by simp) ?_
  refine AllReadyH.cons (o := ⟨_, _, _, _, _, _⟩) rfl (fun K hK => ?_) (AllReadyH.cons (o := ⟨_, _, _, _, _, _⟩) rfl (fun K hK => ?_) AllReadyH.nil)
  go_simp
  refine (getN_any p s nm HA.out _ (HRG.out _ KS).1).mono ?_
  rintro e w2 ⟨rfl, kk⟩
  rw [cellsO_eq, HE.out, HH.out]
  have K2 := Lib.hid (KS.then kk (by simp))
  clear kk
  go_wp2_with fail
  refine hK.out _ _ K2.out (fun _ => ?_)
  clear hK K
  try simp only [Act.put, List.setIfInBounds_toArray, List.set_cons_zero, List.set_cons_succ]
  refine wpAnyH_take (i := 6) (oi := ⟨_, _, _, _, _, _⟩) (v := ?_) rfl (by kernel_rfl) (by kernel_rfl) (by kernel_rfl) (fun _ _ _ h => h) (Or.inl ⟨by rfl, ?_⟩) K2.out ?_
  rotate_left
  · intro w' hSw; (go_simp; try with_reducible rfl)
  try simp only [Act.put, List.setIfInBounds_toArray, List.set_cons_zero, List.set_cons_succ]
  refine wpAnyH_take (i := 7) (oi := ⟨_, _, _, _, _, _⟩) (v := ?_) rfl (by kernel_rfl) (by kernel_rfl) (by kernel_rfl) (fun _ _ _ h => h) (Or.inl ⟨by rfl, ?_⟩) K2.out ?_
  rotate_left
  · intro w' hSw; (go_simp; try with_reducible rfl)
  try simp only [Act.put, List.setIfInBounds_toArray, List.set_cons_zero, List.set_cons_succ]
  refine wpAnyH_take (i := 8) (oi := ⟨_, _, _, _, _, _⟩) (v := ?_) rfl (by kernel_rfl) (by kernel_rfl) (by kernel_rfl) (fun _ _ _ h => h) (Or.inl ⟨by rfl, ?_⟩) K2.out ?_
  rotate_left
  · intro w' hSw; (go_simp; try with_reducible rfl)
  try simp only [Act.put, List.setIfInBounds_toArray, List.set_cons_zero, List.set_cons_succ]
  refine wpAnyH_ready (rs := [9]) (by kernel_rfl) (by simp) ?_
  refine AllReadyH.cons (o := ⟨_, _, _, _, _, _⟩) rfl (fun K hK => ?_) AllReadyH.nil
  go_simp
  refine hK.out _ _ (K2.out.alloc (.cells #[.int .i64 0, .slice none 0 0] 72)) (fun _ => ?_)
  clear hK K
  try simp only [Act.put, List.setIfInBounds_toArray, List.set_cons_zero, List.set_cons_succ]
  have RQ := Lib.hid (rowAt.new w2 72 #[.int .i64 0, .slice none 0 0])
  have KQ := Lib.hid (And.intro (K2.out.alloc (.cells #[.int .i64 0, .slice none 0 0] 72)) (show w1.heap.size ≤ w2.heap.size from K2.out.size))
  obtain ⟨d, hd⟩ : ∃ d, w2.heap.size = d := ⟨_, rfl⟩
  rw [hd] at RQ KQ ⊢
  generalize w2.alloc (.cells #[.int .i64 0, .slice none 0 0] 72) = W at *
  clear hd
  rotate_left
  go_simp
  refine hK.out _ _ (KS.alloc (.cells #[.int .i64 0, .slice none 0 0] 72)) (fun _ => ?_)
  clear hK K
  try simp only [Act.put, List.setIfInBounds_toArray, List.set_cons_zero, List.set_cons_succ]
  refine wpAnyH_ready (rs := [5]) (by kernel_rfl) (by simp) ?_
  refine AllReadyH.cons (o := ⟨_, _, _, _, _, _⟩) rfl (fun K hK => ?_) AllReadyH.nil
  go_simp
  refine (getN_any p s nm HA.out _ (HRG.out _ (KS.alloc (.cells #[.int .i64 0, .slice none 0 0] 72))).1).mono ?_
  rintro e w2 ⟨rfl, kk⟩
  rw [cellsO_eq, HE.out, HH.out]
  have K2 := Lib.hid ((KS.alloc (.cells #[.int .i64 0, .slice none 0 0] 72)).then kk (by simp))
  have RQ := Lib.hid (kk.row (rowAt.new w1.drew 72 #[.int .i64 0, .slice none 0 0]) (by simp))
  clear kk
  go_wp2_with fail
  refine hK.out _ _ K2.out (fun _ => ?_)
  clear hK K
  try simp only [Act.put, List.setIfInBounds_toArray, List.set_cons_zero, List.set_cons_succ]
  have KQ := Lib.hid (And.intro K2.out (show w1.heap.size ≤ w1.drew.heap.size from Nat.le_refl _))
  refine wpAnyH_take (i := 6) (oi := ⟨_, _, _, _, _, _⟩) (v := ?_) rfl (by kernel_rfl) (by kernel_rfl) (by kernel_rfl) (fun _ _ _ h => h) (Or.inl ⟨by rfl, ?_⟩) K2.out ?_
  rotate_left
  · intro w' hSw; (go_simp; try with_reducible rfl)
  try simp only [Act.put, List.setIfInBounds_toArray, List.set_cons_zero, List.set_cons_succ]
  refine wpAnyH_take (i := 7) (oi := ⟨_, _, _, _, _, _⟩) (v := ?_) rfl (by kernel_rfl) (by kernel_rfl) (by kernel_rfl) (fun _ _ _ h => h) (Or.inl ⟨by rfl, ?_⟩) K2.out ?_
  rotate_left
  · intro w' hSw; (go_simp; try with_reducible rfl)
  try simp only [Act.put, List.setIfInBounds_toArray, List.set_cons_zero, List.set_cons_succ]
  refine wpAnyH_take (i := 8) (oi := ⟨_, _, _, _, _, _⟩) (v := ?_) rfl (by kernel_rfl) (by kernel_rfl) (by kernel_rfl) (fun _ _ _ h => h) (Or.inl ⟨by rfl, ?_⟩) K2.out ?_
  rotate_left
  · intro w' hSw; (go_simp; try with_reducible rfl)
  try simp only [Act.put, List.setIfInBounds_toArray, List.set_cons_zero, List.set_cons_succ]
  obtain ⟨d, hd⟩ : ∃ d, w1.drew.heap.size = d := ⟨_, rfl⟩
  rw [hd] at RQ KQ
  change w1.heap.size = d at hd
  rw [hd]
  clear hd
  generalize w2 = W at *
  all_goals (
    have c0 := RQ.out.cell 0
    have c1 := RQ.out.cell 1
    have f0 := RQ.out.free 0
    have f1 := RQ.out.free 1
    refine wpAnyH_ready (rs := [10]) (by kernel_rfl) (by simp) ?_
    refine AllReadyH.cons (o := ⟨_, _, _, _, _, _⟩) rfl (fun K hK => ?_) AllReadyH.nil
    go_simp
    refine hK.out _ _ ((KQ.out.1.setCell ⟨d, 0, none⟩ _ (.inr KQ.out.2)).setCell ⟨d, 1, none⟩ _ (.inr KQ.out.2)) (fun _ => ?_)
    clear hK K
    try simp only [Act.put, List.setIfInBounds_toArray, List.set_cons_zero, List.set_cons_succ]
    refine wpAnyH_take (i := 11) (oi := ⟨_, _, _, _, _, _⟩) (v := ?_) rfl (by kernel_rfl) (by kernel_rfl) (by kernel_rfl) (fun _ _ _ h => h) (Or.inl ⟨by rfl, ?_⟩) ((KQ.out.1.setCell ⟨d, 0, none⟩ (.int .i64 (verN s nm)) (.inr KQ.out.2)).setCell ⟨d, 1, none⟩ (.slice A0 (envN s nm).length cE) (.inr KQ.out.2)) ?_
    rotate_left
    · intro w' hSw; (go_simp; try with_reducible rfl)
    try simp only [Act.put, List.setIfInBounds_toArray, List.set_cons_zero, List.set_cons_succ]
    refine wpAnyH_done (by kernel_rfl) ?_ _
    clear c0 c1 f0 f1
    have r5 := (RQ.out.set 0 (.int .i64 (verN s nm))).set 1 (.slice A0 (envN s nm).length cE)
    have k5 := (KQ.out.1.setCell ⟨d, 0, none⟩ (.int .i64 (verN s nm)) (.inr KQ.out.2)).setCell ⟨d, 1, none⟩ (.slice A0 (envN s nm).length cE) (.inr KQ.out.2)
    go_upto_region 2 with fail
    generalize (W.setCell ⟨d, 0, none⟩ (.int .i64 (verN s nm))).setCell ⟨d, 1, none⟩ (.slice A0 (envN s nm).length cE) = W5 at *
    have K5 := Lib.hid k5
    have RA := Lib.hid (k5.row HQ.out.1 (by simp))
    have HC : Hid (∀ V, keepBut [q] W5 V → V.cell? ⟨d, 0, none⟩ = some (.int .i64 (verN s nm)) ∧ V.cell? ⟨d, 1, none⟩ = some (.slice A0 (envN s nm).length cE)) := Lib.hid (fun V k => by
      have hdq : d ∉ [q] := by have := HQ.out.2.2.2; have := KQ.out.2; have := HK.out.size; simp; omega
      exact ⟨(k.row r5 hdq).cell 0, (k.row r5 hdq).cell 1⟩)
    clear r5 k5
    go_upto_region 4 with fail
    have KT : keepBut [q] W5 W5.drew := (keepBut.refl [q] W5).drew
    refine wp_region_held_drew (S := fun V => keepBut [q] W5 V) (by kernel_rfl) KT (fun _ => ?_)
    refine wpAnyH_take (i := 0) (oi := ⟨_, _, _, _, _, _⟩) (v := ?_) rfl (by kernel_rfl) (by kernel_rfl) (by kernel_rfl) (fun _ _ _ h => h) (Or.inl ⟨by rfl, ?_⟩) KT ?_
    rotate_left
    · intro w' hSw; (go_simp; try with_reducible rfl)
    try simp only [Act.put, List.setIfInBounds_toArray, List.set_cons_zero, List.set_cons_succ]
    refine wpAnyH_take (i := 1) (oi := ⟨_, _, _, _, _, _⟩) (v := ?_) rfl (by kernel_rfl) (by kernel_rfl) (by kernel_rfl) (fun _ _ _ h => h) (Or.inl ⟨by rfl, ?_⟩) KT ?_
    rotate_left
    · intro w' hSw; (go_simp; try with_reducible rfl)
    try simp only [Act.put, List.setIfInBounds_toArray, List.set_cons_zero, List.set_cons_succ]
    refine wpAnyH_take (i := 2) (oi := ⟨_, _, _, _, _, _⟩) (v := ?_) rfl (by kernel_rfl) (by kernel_rfl) (by kernel_rfl) (fun _ _ _ h => h) (Or.inl ⟨by rfl, ?_⟩) KT ?_
    rotate_left
    · intro w' hSw; (go_simp; try with_reducible rfl)
    try simp only [Act.put, List.setIfInBounds_toArray, List.set_cons_zero, List.set_cons_succ]
    refine wpAnyH_take (i := 3) (oi := ⟨_, _, _, _, _, _⟩) (v := ?_) rfl (by kernel_rfl) (by kernel_rfl) (by kernel_rfl) (fun _ _ _ h => h) (Or.inl ⟨by rfl, ?_⟩) KT ?_
    rotate_left
    · intro w' hSw; have hy := (HC.out w' hSw).1; (go_simp; try with_reducible rfl)
    try simp only [Act.put, List.setIfInBounds_toArray, List.set_cons_zero, List.set_cons_succ]
    refine wpAnyH_take (i := 4) (oi := ⟨_, _, _, _, _, _⟩) (v := ?_) rfl (by kernel_rfl) (by kernel_rfl) (by kernel_rfl) (fun _ _ _ h => h) (Or.inl ⟨by rfl, ?_⟩) KT ?_
    rotate_left
    · intro w' hSw; (go_simp; try with_reducible rfl)
    try simp only [Act.put, List.setIfInBounds_toArray, List.set_cons_zero, List.set_cons_succ]
    refine wpAnyH_take (i := 5) (oi := ⟨_, _, _, _, _, _⟩) (v := ?_) rfl (by kernel_rfl) (by kernel_rfl) (by kernel_rfl) (fun _ _ _ h => h) (Or.inl ⟨by rfl, ?_⟩) KT ?_
    rotate_left
    · intro w' hSw; have hy := (HC.out w' hSw).2; (go_simp; try with_reducible rfl)
    try simp only [Act.put, List.setIfInBounds_toArray, List.set_cons_zero, List.set_cons_succ]
    refine wpAnyH_ready (rs := [6]) (by kernel_rfl) (by simp) ?_
    refine AllReadyH.cons (o := ⟨_, _, _, _, _, _⟩) rfl (fun K hK => ?_) AllReadyH.nil
    go_simp
    refine (cloneB_any s.F _ (envN s nm) _ (HV.out.1.keep (K5.out.then ((keepBut.refl [] W5).drew) (by simp)) (by simp)) (by have := HV.out.2; omega)).mono ?_
    rintro e w7 ⟨v7, G, rfl, n7⟩
    obtain ⟨A7, c7, g7, rfl, _⟩ := id n7.1
    have N7 := Lib.hid n7
    have K7 := Lib.hid (KT.then n7.2.2.2 (by simp))
    have R7 := Lib.hid (n7.2.2.2.row (show rowAt W5.drew q 40 _ from RA.out) (by simp))
    clear n7
    go_wp2_with fail
    refine hK.out _ _ K7.out (fun _ => ?_)
    clear hK K
    try simp only [Act.put, List.setIfInBounds_toArray, List.set_cons_zero, List.set_cons_succ]
    refine wpAnyH_take (i := 7) (oi := ⟨_, _, _, _, _, _⟩) (v := ?_) rfl (by kernel_rfl) (by kernel_rfl) (by kernel_rfl) (fun _ _ _ h => h) (Or.inl ⟨by rfl, ?_⟩) K7.out ?_
    rotate_left
    · intro w' hSw; (go_simp; try with_reducible rfl)
    try simp only [Act.put, List.setIfInBounds_toArray, List.set_cons_zero, List.set_cons_succ]
    refine wpAnyH_take (i := 8) (oi := ⟨_, _, _, _, _, _⟩) (v := ?_) rfl (by kernel_rfl) (by kernel_rfl) (by kernel_rfl) (fun _ _ _ h => h) (Or.inl ⟨by rfl, ?_⟩) K7.out ?_
    rotate_left
    · intro w' hSw; (go_simp; try with_reducible rfl)
    try simp only [Act.put, List.setIfInBounds_toArray, List.set_cons_zero, List.set_cons_succ]
    have y3 : w7.cell? ⟨q, 3, none⟩ = some (.int .i64 a.version) := R7.out.cell 3
    have f3 := R7.out.free 3
    refine wpAnyH_ready (rs := [9]) (by kernel_rfl) (by simp) ?_
    refine AllReadyH.cons (o := ⟨_, _, _, _, _, _⟩) rfl (fun K hK => ?_) AllReadyH.nil
    go_simp
    refine hK.out _ _ (K7.out.setCell ⟨q, 3, none⟩ _ (.inl (by simp))) (fun _ => ?_)
    clear hK K
    try simp only [Act.put, List.setIfInBounds_toArray, List.set_cons_zero, List.set_cons_succ]
    have r8 : rowAt (w7.setCell ⟨q, 3, none⟩ (.int .i64 (verN s nm))) q 40 (anL { a with version := verN s nm } nilV).toArray := R7.out.set 3 _
    have k8 : keepBut [q] W5 (w7.setCell ⟨q, 3, none⟩ (.int .i64 (verN s nm))) := K7.out.setCell _ _ (.inl (by simp))
    have b8 := kset w7 q 3 (.int .i64 (verN s nm))
    clear y3 f3
    generalize w7.setCell ⟨q, 3, none⟩ (.int .i64 (verN s nm)) = w8 at *
    have y37 : w8.cell? ⟨q, 37, none⟩ = some (.slice none 0 0) := (r8.cell 37).trans (anL_env HQ.out.2.1)
    have f37 := r8.free 37
    refine wpAnyH_take (i := 10) (oi := ⟨_, _, _, _, _, _⟩) (v := ?_) rfl (by kernel_rfl) (by kernel_rfl) (by kernel_rfl) (fun _ _ _ h => h) (Or.inl ⟨by rfl, ?_⟩) k8 ?_
    rotate_left
    · intro w' hSw; (go_simp; try with_reducible rfl)
    try simp only [Act.put, List.setIfInBounds_toArray, List.set_cons_zero, List.set_cons_succ]
    refine wpAnyH_take (i := 11) (oi := ⟨_, _, _, _, _, _⟩) (v := ?_) rfl (by kernel_rfl) (by kernel_rfl) (by kernel_rfl) (fun _ _ _ h => h) (Or.inl ⟨by rfl, ?_⟩) k8 ?_
    rotate_left
    · intro w' hSw; (go_simp; try with_reducible rfl)
    try simp only [Act.put, List.setIfInBounds_toArray, List.set_cons_zero, List.set_cons_succ]
    refine wpAnyH_ready (rs := [12]) (by kernel_rfl) (by simp) ?_
    refine AllReadyH.cons (o := ⟨_, _, _, _, _, _⟩) rfl (fun K hK => ?_) AllReadyH.nil
    go_simp
    refine hK.out _ _ (k8.setCell ⟨q, 37, none⟩ _ (.inl (by simp))) (fun _ => ?_)
    clear hK K
    try simp only [Act.put, List.setIfInBounds_toArray, List.set_cons_zero, List.set_cons_succ]
    refine wpAnyH_done (by kernel_rfl) ?_ _
    go_wp2_with fail
    go_end0
    have r9 := r8.set 37 (.slice A7 (envN s nm).length c7)
    rw [anL_set (a := { a with version := verN s nm }) HQ.out.2.1] at r9
    have b9 := kset w8 q 37 (.slice A7 (envN s nm).length c7)
    have e1 : actGet s r a = { a with version := verN s nm, env := envN s nm } := by unfold actGet; rw [HNM.out, if_pos HH.out]
    have s5 := (HK.out.then K5.out (by simp)).size
    have hGk : ∀ y ∈ G, y ∉ [q] := fun y hy => by have h1 := (N7.out.2.2.1 y hy).1; have h2 := HQ.out.2.2.2; have h3 : W5.drew.heap.size = W5.heap.size := rfl; simp; omega
    have b79 := b8.then b9 (fun x hx => .inl hx)
    refine ⟨.slice A7 (envN s nm).length c7, G, rfl, by rw [e1]; exact r9, by rw [e1]; exact N7.out.1.keep b79 hGk, fun y hy => ?_, fun y hy => ⟨by have h1 := (N7.out.2.2.1 y hy).1; have h3 : W5.drew.heap.size = W5.heap.size := rfl; omega, by have h1 := (N7.out.2.2.1 y hy).2; have h2 := b79.size; omega⟩, (((HK.out.then K5.out (by simp)).more (by simp)).then k8 (fun x hx => .inl hx)).then b9 (fun x hx => .inl hx)⟩
    obtain ⟨cs, hc⟩ := N7.out.2.1 y hy
    exact ⟨cs, b79.row hc (hGk y hy)⟩)
end Go.Proofs.YtmlmhnhilemjhaaDoor
