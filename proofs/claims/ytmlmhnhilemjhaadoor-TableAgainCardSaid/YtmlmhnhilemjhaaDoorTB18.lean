/-
  TABLE, 18: Get.
-/
import Derived.Test.YtmlmhnhilemjhaaDoorTB17
namespace Go.Proofs.YtmlmhnhilemjhaaDoor
open Go.RowKit
set_option linter.unusedVariables false
set_option maxRecDepth 100000
set_option linter.unusedSimpArgs false

theorem getN_any (p : Nat) (s : TS) (t : List UInt8) (ht : t.length = 32) (w : World) (h : isT w p s) :
    Calls Tryd.prog 24 #[.pointer (some ⟨p, 1, none⟩), .agg (nameL t).toArray] w
      fun e w' => e = .returned (.tuple #[.agg (cellsO (getN s t)).toArray, .bool (hitN s t)]) ∧ keepBut [] w w' := by
  rcases Bool.eq_false_or_eq_true (hitN s t) with hh | hh
  · rw [hh]; exact getN_yes p s t ht w h hh
  · rw [hh]; exact getN_no p s t ht w h hh
theorem getI_any (p : Nat) (s : TS) (t : Int) (ht : 0 ≤ t ∧ t ≤ 1000000) (w : World) (h : isT w p s) :
    Calls Tryd.prog 27 #[.pointer (some ⟨p, 4, none⟩), .int .i64 t] w
      fun e w' => e = .returned (.tuple #[.agg (cellsA (getI s t)).toArray, .bool (hitI s t)]) ∧ keepBut [] w w' := by
  rcases Bool.eq_false_or_eq_true (hitI s t) with hh | hh
  · rw [hh]; exact getI_yes p s t ht w h hh
  · rw [hh]; exact getI_no p s t ht w h hh
/-- the version and the envelope of a name -/
def verN (s : TS) (t : List UInt8) : Int := match getN s t with | some b => b.version | none => 0
def envN (s : TS) (t : List UInt8) : List UInt8 := match getN s t with | some b => b.env | none => []
def evN (s : TS) (t : List UInt8) : Value := match getN s t with | some b => b.ev | none => nilV
theorem cellsO_eq (s : TS) (t : List UInt8) : cellsO (getN s t) = [.int .i64 (verN s t), evN s t] := by
  unfold verN evN
  cases getN s t <;> rfl
theorem getN_mem {s : TS} {t : List UInt8} {b : OB} (h : getN s t = some b) : b ∈ s.objs := by
  unfold getN at h
  split at h
  · exact List.mem_of_getElem? h
  · cases h
theorem isT.evN {w : World} {p : Nat} {s : TS} (h : isT w p s) (t : List UInt8) : bytesV w s.F (evN s t) (envN s t) ∧ (envN s t).length ≤ 1000 := by
  unfold Go.Proofs.YtmlmhnhilemjhaaDoor.evN envN
  cases hg : getN s t with
  | none => exact ⟨bytesV.nil _ _, by simp⟩
  | some b => exact ⟨h.envO b (getN_mem hg), h.lensO b (getN_mem hg)⟩
set_option maxHeartbeats 8000000 in
theorem get_any (p : Nat) (s : TS) (t : List UInt8) (ht : t.length = 32) (w : World) (h : isT w p s) :
    Calls Tryd.prog 9 #[.pointer (some ⟨p, 0, none⟩), .agg (nameL t).toArray] w
      fun e w' => ∃ v G, e = .returned (.tuple #[.int .i64 (verN s t), v]) ∧ bytesN (envN s t) w w' v G := by
  obtain ⟨w1, hw1⟩ : ∃ w1, w.alloc (.cells (nameL t).toArray 28) = w1 := ⟨_, rfl⟩
  have r1 : rowAt w1 w.heap.size 28 (nameL t).toArray := hw1 ▸ rowAt.new _ _ _
  have k1 : keepBut [] w w1 := hw1 ▸ (keepBut.refl [] w).alloc _
  have HW1 := Lib.hid hw1
  have HRG : Hid (∀ W, keepBut [] w1 W → isT W p s ∧ W.rangeAt w.heap.size 0 (nameL t)) := Lib.hid (fun W k => ⟨(h.over k1).over k, (k.row r1 (by simp)).rangeAll⟩)
  have HT := Lib.hid (h.over k1)
  have HK := Lib.hid k1
  have HA := Lib.hid ht
  obtain ⟨hev, hel⟩ := h.evN t
  obtain ⟨A0, cE, g0, hE, _⟩ := id hev
  rw [hE] at hev
  have HE := Lib.hid hE
  have HV := Lib.hid (And.intro (hev.keep k1 (by simp)) hel)
  clear hw1 r1 k1 h hE hev hel
  go_enter Tryd.func9, Tryd.ntmps9
  go_upto_region 3 with (first
    | (with_reducible refine wpList_box_to _ _ rfl 28 (.tmp 1) rfl _ rfl HW1.out ?_)
    | (go_at_call 23; refine (none_no p s _ HT.out).mono ?_; rintro e w' ⟨rfl, rfl⟩))
  have KS : keepBut [] w1 w1.drew := (keepBut.refl [] w1).drew
  refine wp_region_held_drew (S := fun W => keepBut [] w1 W) (by kernel_rfl) KS (fun _ => ?_)
  refine wpAnyH_take (i := 0) (oi := ⟨_, _, _, _, _, _⟩) (v := ?_) rfl (by kernel_rfl) (by kernel_rfl) (by kernel_rfl) (fun _ _ _ h => h) (Or.inl ⟨by rfl, ?_⟩) KS ?_
  rotate_left
  · intro w' hSw; (go_simp; try with_reducible rfl)
  try simp only [Act.put, List.setIfInBounds_toArray, List.set_cons_zero, List.set_cons_succ]
  refine wpAnyH_take (i := 1) (oi := ⟨_, _, _, _, _, _⟩) (v := ?_) rfl (by kernel_rfl) (by kernel_rfl) (by kernel_rfl) (fun _ _ _ h => h) (Or.inl ⟨by rfl, ?_⟩) KS ?_
  rotate_left
  · intro w' hSw; (go_simp; try with_reducible rfl)
  try simp only [Act.put, List.setIfInBounds_toArray, List.set_cons_zero, List.set_cons_succ]
  refine wpAnyH_take (i := 2) (oi := ⟨_, _, _, _, _, _⟩) (v := ?_) rfl (by kernel_rfl) (by kernel_rfl) (by kernel_rfl) (fun _ _ _ h => h) (Or.inl ⟨by rfl, ?_⟩) KS ?_
  rotate_left
  · intro w' hSw; (go_simp; try with_reducible rfl)
  try simp only [Act.put, List.setIfInBounds_toArray, List.set_cons_zero, List.set_cons_succ]
  refine wpAnyH_take (i := 3) (oi := ⟨_, _, _, _, _, _⟩) (v := .agg (nameL t).toArray) rfl (by kernel_rfl) (by kernel_rfl) (by kernel_rfl) (fun _ _ _ h => h) (yieldsIf_mid 28 (.tmp 3) rfl w.heap.size 0 rfl (nameL t) _ (fun w' hSw => (HRG.out w' hSw).2) Tryd.underlying28 rfl (by rw [nameL_len, HA.out]; exact infoName) ?_) KS ?_
  · rfl
  try simp only [Act.put, List.setIfInBounds_toArray, List.set_cons_zero, List.set_cons_succ]
  refine wpAnyH_ready (rs := [4, 8]) (by kernel_rfl) (by simp) ?_
  refine AllReadyH.cons (o := ⟨_, _, _, _, _, _⟩) rfl (fun K hK => ?_) (AllReadyH.cons (o := ⟨_, _, _, _, _, _⟩) rfl (fun K hK => ?_) AllReadyH.nil)
  go_simp
  refine (getN_any p s t HA.out _ (HRG.out _ KS).1).mono ?_
  rintro e w2 ⟨rfl, kk⟩
  rw [cellsO_eq, HE.out]
  have K2 := Lib.hid (KS.then kk (by simp))
  clear kk
  go_wp2_with fail
  refine hK.out _ _ K2.out (fun _ => ?_)
  clear hK K
  try simp only [Act.put, List.setIfInBounds_toArray, List.set_cons_zero, List.set_cons_succ]
  refine wpAnyH_take (i := 5) (oi := ⟨_, _, _, _, _, _⟩) (v := ?_) rfl (by kernel_rfl) (by kernel_rfl) (by kernel_rfl) (fun _ _ _ h => h) (Or.inl ⟨by rfl, ?_⟩) K2.out ?_
  rotate_left
  · intro w' hSw; (go_simp; try with_reducible rfl)
  try simp only [Act.put, List.setIfInBounds_toArray, List.set_cons_zero, List.set_cons_succ]
  refine wpAnyH_take (i := 6) (oi := ⟨_, _, _, _, _, _⟩) (v := ?_) rfl (by kernel_rfl) (by kernel_rfl) (by kernel_rfl) (fun _ _ _ h => h) (Or.inl ⟨by rfl, ?_⟩) K2.out ?_
  rotate_left
  · intro w' hSw; (go_simp; try with_reducible rfl)
  try simp only [Act.put, List.setIfInBounds_toArray, List.set_cons_zero, List.set_cons_succ]
  refine wpAnyH_take (i := 7) (oi := ⟨_, _, _, _, _, _⟩) (v := ?_) rfl (by kernel_rfl) (by kernel_rfl) (by kernel_rfl) (fun _ _ _ h => h) (Or.inl ⟨by rfl, ?_⟩) K2.out ?_
  rotate_left
  · intro w' hSw; (go_simp; try with_reducible rfl)
  try simp only [Act.put, List.setIfInBounds_toArray, List.set_cons_zero, List.set_cons_succ]
  refine wpAnyH_ready (rs := [8]) (by kernel_rfl) (by simp) ?_
  refine AllReadyH.cons (o := ⟨_, _, _, _, _, _⟩) rfl (fun K hK => ?_) AllReadyH.nil
  go_simp
  refine hK.out _ _ (K2.out.alloc (.cells #[.int .i64 0, .slice none 0 0] 72)) (fun _ => ?_)
  clear hK K
  try simp only [Act.put, List.setIfInBounds_toArray, List.set_cons_zero, List.set_cons_succ]
  have RQ := Lib.hid (rowAt.new w2 72 #[.int .i64 0, .slice none 0 0])
  have KQ := Lib.hid (And.intro (K2.out.alloc (.cells #[.int .i64 0, .slice none 0 0] 72)) (show w1.heap.size ≤ w2.heap.size from K2.out.size))
  obtain ⟨q, hq⟩ : ∃ q, w2.heap.size = q := ⟨_, rfl⟩
  rw [hq] at RQ KQ ⊢
  generalize w2.alloc (.cells #[.int .i64 0, .slice none 0 0] 72) = W at *
  clear hq
  rotate_left
  go_simp
  refine hK.out _ _ (KS.alloc (.cells #[.int .i64 0, .slice none 0 0] 72)) (fun _ => ?_)
  clear hK K
  try simp only [Act.put, List.setIfInBounds_toArray, List.set_cons_zero, List.set_cons_succ]
  refine wpAnyH_ready (rs := [4]) (by kernel_rfl) (by simp) ?_
  refine AllReadyH.cons (o := ⟨_, _, _, _, _, _⟩) rfl (fun K hK => ?_) AllReadyH.nil
  go_simp
  refine (getN_any p s t HA.out _ (HRG.out _ (KS.alloc (.cells #[.int .i64 0, .slice none 0 0] 72))).1).mono ?_
  rintro e w2 ⟨rfl, kk⟩
  rw [cellsO_eq, HE.out]
  have K2 := Lib.hid ((KS.alloc (.cells #[.int .i64 0, .slice none 0 0] 72)).then kk (by simp))
  have RQ := Lib.hid (kk.row (rowAt.new w1.drew 72 #[.int .i64 0, .slice none 0 0]) (by simp))
  clear kk
  go_wp2_with fail
  refine hK.out _ _ K2.out (fun _ => ?_)
  clear hK K
  try simp only [Act.put, List.setIfInBounds_toArray, List.set_cons_zero, List.set_cons_succ]
  have KQ := Lib.hid (And.intro K2.out (show w1.heap.size ≤ w1.drew.heap.size from Nat.le_refl _))
  refine wpAnyH_take (i := 5) (oi := ⟨_, _, _, _, _, _⟩) (v := ?_) rfl (by kernel_rfl) (by kernel_rfl) (by kernel_rfl) (fun _ _ _ h => h) (Or.inl ⟨by rfl, ?_⟩) K2.out ?_
  rotate_left
  · intro w' hSw; (go_simp; try with_reducible rfl)
  try simp only [Act.put, List.setIfInBounds_toArray, List.set_cons_zero, List.set_cons_succ]
  refine wpAnyH_take (i := 6) (oi := ⟨_, _, _, _, _, _⟩) (v := ?_) rfl (by kernel_rfl) (by kernel_rfl) (by kernel_rfl) (fun _ _ _ h => h) (Or.inl ⟨by rfl, ?_⟩) K2.out ?_
  rotate_left
  · intro w' hSw; (go_simp; try with_reducible rfl)
  try simp only [Act.put, List.setIfInBounds_toArray, List.set_cons_zero, List.set_cons_succ]
  refine wpAnyH_take (i := 7) (oi := ⟨_, _, _, _, _, _⟩) (v := ?_) rfl (by kernel_rfl) (by kernel_rfl) (by kernel_rfl) (fun _ _ _ h => h) (Or.inl ⟨by rfl, ?_⟩) K2.out ?_
  rotate_left
  · intro w' hSw; (go_simp; try with_reducible rfl)
  try simp only [Act.put, List.setIfInBounds_toArray, List.set_cons_zero, List.set_cons_succ]
  obtain ⟨q, hq⟩ : ∃ q, w1.drew.heap.size = q := ⟨_, rfl⟩
  rw [hq] at RQ KQ
  change w1.heap.size = q at hq
  rw [hq]
  clear hq
  generalize w2 = W at *
  all_goals (
    have c0 := RQ.out.cell 0
    have c1 := RQ.out.cell 1
    have f0 := RQ.out.free 0
    have f1 := RQ.out.free 1
    refine wpAnyH_ready (rs := [9]) (by kernel_rfl) (by simp) ?_
    refine AllReadyH.cons (o := ⟨_, _, _, _, _, _⟩) rfl (fun K hK => ?_) AllReadyH.nil
    go_simp
    refine hK.out _ _ ((KQ.out.1.setCell ⟨q, 0, none⟩ _ (.inr KQ.out.2)).setCell ⟨q, 1, none⟩ _ (.inr KQ.out.2)) (fun _ => ?_)
    clear hK K
    try simp only [Act.put, List.setIfInBounds_toArray, List.set_cons_zero, List.set_cons_succ]
    refine wpAnyH_take (i := 10) (oi := ⟨_, _, _, _, _, _⟩) (v := ?_) rfl (by kernel_rfl) (by kernel_rfl) (by kernel_rfl) (fun _ _ _ h => h) (Or.inl ⟨by rfl, ?_⟩) ((KQ.out.1.setCell ⟨q, 0, none⟩ (.int .i64 (verN s t)) (.inr KQ.out.2)).setCell ⟨q, 1, none⟩ (.slice A0 (envN s t).length cE) (.inr KQ.out.2)) ?_
    rotate_left
    · intro w' hSw; (go_simp; try with_reducible rfl)
    try simp only [Act.put, List.setIfInBounds_toArray, List.set_cons_zero, List.set_cons_succ]
    refine wpAnyH_done (by kernel_rfl) ?_ _
    clear c0 c1 f0 f1
    have r5 := (RQ.out.set 0 (.int .i64 (verN s t))).set 1 (.slice A0 (envN s t).length cE)
    have k5 := (KQ.out.1.setCell ⟨q, 0, none⟩ (.int .i64 (verN s t)) (.inr KQ.out.2)).setCell ⟨q, 1, none⟩ (.slice A0 (envN s t).length cE) (.inr KQ.out.2)
    go_upto_region 4 with fail
    generalize (W.setCell ⟨q, 0, none⟩ (.int .i64 (verN s t))).setCell ⟨q, 1, none⟩ (.slice A0 (envN s t).length cE) = W5 at *
    have HC : Hid (∀ V, keepBut [] W5 V → V.cell? ⟨q, 0, none⟩ = some (.int .i64 (verN s t)) ∧ V.cell? ⟨q, 1, none⟩ = some (.slice A0 (envN s t).length cE)) := Lib.hid (fun V k => ⟨(k.row r5 (by simp)).cell 0, (k.row r5 (by simp)).cell 1⟩)
    have K5 := Lib.hid k5
    have KT : keepBut [] W5 W5.drew := (keepBut.refl [] W5).drew
    clear r5 k5
    refine wp_region_held_drew (S := fun V => keepBut [] W5 V) (by kernel_rfl) KT (fun _ => ?_)
    refine wpAnyH_take (i := 0) (oi := ⟨_, _, _, _, _, _⟩) (v := ?_) rfl (by kernel_rfl) (by kernel_rfl) (by kernel_rfl) (fun _ _ _ h => h) (Or.inl ⟨by rfl, ?_⟩) KT ?_
    rotate_left
    · intro w' hSw; (go_simp; try with_reducible rfl)
    try simp only [Act.put, List.setIfInBounds_toArray, List.set_cons_zero, List.set_cons_succ]
    refine wpAnyH_take (i := 1) (oi := ⟨_, _, _, _, _, _⟩) (v := ?_) rfl (by kernel_rfl) (by kernel_rfl) (by kernel_rfl) (fun _ _ _ h => h) (Or.inl ⟨by rfl, ?_⟩) KT ?_
    rotate_left
    · intro w' hSw; have hy := (HC.out w' hSw).1; (go_simp; try with_reducible rfl)
    try simp only [Act.put, List.setIfInBounds_toArray, List.set_cons_zero, List.set_cons_succ]
    refine wpAnyH_take (i := 2) (oi := ⟨_, _, _, _, _, _⟩) (v := ?_) rfl (by kernel_rfl) (by kernel_rfl) (by kernel_rfl) (fun _ _ _ h => h) (Or.inl ⟨by rfl, ?_⟩) KT ?_
    rotate_left
    · intro w' hSw; (go_simp; try with_reducible rfl)
    try simp only [Act.put, List.setIfInBounds_toArray, List.set_cons_zero, List.set_cons_succ]
    refine wpAnyH_take (i := 3) (oi := ⟨_, _, _, _, _, _⟩) (v := ?_) rfl (by kernel_rfl) (by kernel_rfl) (by kernel_rfl) (fun _ _ _ h => h) (Or.inl ⟨by rfl, ?_⟩) KT ?_
    rotate_left
    · intro w' hSw; have hy := (HC.out w' hSw).2; (go_simp; try with_reducible rfl)
    try simp only [Act.put, List.setIfInBounds_toArray, List.set_cons_zero, List.set_cons_succ]
    refine wpAnyH_ready (rs := [4]) (by kernel_rfl) (by simp) ?_
    refine AllReadyH.cons (o := ⟨_, _, _, _, _, _⟩) rfl (fun K hK => ?_) AllReadyH.nil
    go_simp
    refine (cloneB_any s.F _ (envN s t) _ (HV.out.1.keep (K5.out.then KT (by simp)) (by simp)) (by have := HV.out.2; omega)).mono ?_
    rintro e w7 ⟨v7, G, rfl, n7⟩
    have N7 := Lib.hid n7
    have K7 := Lib.hid (KT.then n7.2.2.2 (by simp))
    clear n7
    go_wp2_with fail
    refine hK.out _ _ K7.out (fun _ => ?_)
    clear hK K
    try simp only [Act.put, List.setIfInBounds_toArray, List.set_cons_zero, List.set_cons_succ]
    refine wpAnyH_take (i := 5) (oi := ⟨_, _, _, _, _, _⟩) (v := ?_) rfl (by kernel_rfl) (by kernel_rfl) (by kernel_rfl) (fun _ _ _ h => h) (Or.inl ⟨by rfl, ?_⟩) K7.out ?_
    rotate_left
    · intro w' hSw; (go_simp; try with_reducible rfl)
    try simp only [Act.put, List.setIfInBounds_toArray, List.set_cons_zero, List.set_cons_succ]
    refine wpAnyH_take (i := 6) (oi := ⟨_, _, _, _, _, _⟩) (v := ?_) rfl (by kernel_rfl) (by kernel_rfl) (by kernel_rfl) (fun _ _ _ h => h) (Or.inl ⟨by rfl, ?_⟩) K7.out ?_
    rotate_left
    · intro w' hSw; (go_simp; try with_reducible rfl)
    try simp only [Act.put, List.setIfInBounds_toArray, List.set_cons_zero, List.set_cons_succ]
    refine wpAnyH_done (by kernel_rfl) ?_ _
    go_wp2_with fail
    go_ret2
    have s5 := (HK.out.then (K5.out.then KT (by simp)) (by simp)).size
    exact ⟨v7, G, rfl, N7.out.1, N7.out.2.1, fun y hy => ⟨by have := (N7.out.2.2.1 y hy).1; omega, (N7.out.2.2.1 y hy).2⟩, (HK.out.then K5.out (by simp)).then K7.out (by simp)⟩)
end Go.Proofs.YtmlmhnhilemjhaaDoor
