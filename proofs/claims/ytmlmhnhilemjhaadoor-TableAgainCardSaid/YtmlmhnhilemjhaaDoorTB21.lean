/-
  TABLE, 21: the act raise.
-/
import Derived.Test.YtmlmhnhilemjhaaDoorTB20
namespace Go.Proofs.YtmlmhnhilemjhaaDoor
open Go.RowKit
set_option linter.unusedVariables false
set_option maxRecDepth 100000
set_option linter.unusedSimpArgs false

theorem isT.keepPQ {w w' : World} {p q : Nat} {s : TS} {cs : Array Value} {n : Int} (h : isT w p s) (hq : rowAt w q 40 cs) (ha : q ∉ homes s.av) (k : keepBut [p, q] w w')
    (hr : rowAt w' p 67 #[.int .i64 n, ordN, s.kv, s.vv, ordI, s.iv, s.av]) : isT w' p { s with epoch := n } := by
  have ow : ∀ {v : Value}, p ∉ homes v → q ∉ homes v → ∀ x ∈ homes v, x ∉ [p, q] := fun hp hv x hx => by
    simp only [List.mem_cons, List.not_mem_nil, or_false, not_or]
    exact ⟨by rintro rfl; exact hp hx, by rintro rfl; exact hv hx⟩
  have hF : ∀ y ∈ s.F, y ∉ [p, q] := fun y hy => by
    obtain ⟨ds, hc⟩ := h.blocks y hy
    simp only [List.mem_cons, List.not_mem_nil, or_false, not_or]
    exact ⟨hc.apart h.row (by decide), hc.apart hq (by decide)⟩
  exact ⟨hr, h.kown.keep k (ow (h.kown.apart h.row (by decide)) (h.kown.apart hq (by decide))), h.vown.keep k (ow (h.vown.apart h.row (by decide)) (h.vown.apart hq (by decide))), h.iown.keep k (ow (h.iown.apart h.row (by decide)) (h.iown.apart hq (by decide))), h.aown.keep k (ow (h.aown.apart h.row (by decide)) ha),
    h.names, h.clients, h.small, h.few, h.sortN, h.sortI, h.ansN, fun b hb => (h.envO b hb).keep k hF, fun b hb => (h.envA b hb).keep k hF, fun y hy => let ⟨ds, hc⟩ := h.blocks y hy; ⟨ds, k.row hc (hF y hy)⟩, h.lensO, h.lensA⟩
def raiseE (s : TS) (r : RQ) : Int := if r.version = s.epoch + 1 then r.version else s.epoch
def actRaise (s : TS) (r : RQ) (a : AN) : AN := if r.version = s.epoch + 1 then { a with version := r.version } else { a with code := 2, version := s.epoch }
def raisePost (p q : Nat) (s : TS) (r : RQ) (a : AN) (w : World) (e : Ending) (w' : World) : Prop :=
  e = .returned (.tuple #[]) ∧ isT w' p { s with epoch := raiseE s r } ∧ rowAt w' q 40 (anL (actRaise s r a) nilV).toArray ∧ keepBut [p, q] w w'
set_option maxHeartbeats 8000000 in
theorem actRaise_yes (p q : Nat) (s : TS) (r : RQ) (ev : Value) (a : AN) (w : World) (h : isT w p s) (hq : rowAt w q 40 (anL a nilV).toArray) (hqa : q ∉ homes s.av) (hep : 0 ≤ s.epoch ∧ s.epoch ≤ 255) (hv : r.version = s.epoch + 1) :
    Calls Tryd.prog 55 #[.pointer (some ⟨p, 0, none⟩), .agg (rqL r ev).toArray, .pointer (some ⟨q, 0, none⟩)] w (raisePost p q s r a w) := by
  have hpq : p ≠ q := h.row.apart hq (by decide)
  have HQ0 := Lib.hid (And.intro h (And.intro hq hqa))
  obtain ⟨X, hX⟩ : ∃ X, rqL r ev = X := ⟨_, rfl⟩
  have hx3 : X.toArray[3]? = some (.int .i64 r.version) := by rw [← hX]; rfl
  rw [hX]
  obtain ⟨w1, hw1⟩ : ∃ w1, w.alloc (.cells X.toArray 31) = w1 := ⟨_, rfl⟩
  have r1 : rowAt w1 w.heap.size 31 X.toArray := hw1 ▸ rowAt.new _ _ _
  have k1 : keepBut [] w w1 := hw1 ▸ (keepBut.refl [] w).alloc _
  have HW1 := Lib.hid hw1
  have HRG : Hid (∀ W, keepBut [] w1 W → W.cell? ⟨p, 0, none⟩ = some (.int .i64 s.epoch) ∧ W.cell? ⟨w.heap.size, 3, none⟩ = some (.int .i64 r.version)) := Lib.hid (fun W k =>
    ⟨((h.over k1).over k).row.cell 0, ((k.row r1 (by simp)).cell 3).trans hx3⟩)
  have HK := Lib.hid k1
  have HP := Lib.hid (And.intro (h.over k1).row (And.intro (k1.row hq (by simp)) (r1.cell 3 |>.trans hx3)))
  have hw : IntKind.i64.wrap (s.epoch + 1) = s.epoch + 1 := by rw [IntKind.wrap_i64]; omega
  have HN := Lib.hid (And.intro hpq (And.intro (fun e : p = w.heap.size => Nat.lt_irrefl _ (e ▸ h.row.lt)) (fun e : q = w.heap.size => Nat.lt_irrefl _ (e ▸ hq.lt))))
  clear hw1 r1 k1 h hq hqa hX hx3 hpq
  generalize hver : r.version = ver at *
  have HVE := Lib.hid hver
  clear hver
  go_enter Tryd.func55, Tryd.ntmps55
  go_upto_region 1 with (with_reducible refine wpList_box_to _ _ rfl 31 (.tmp 1) rfl _ rfl HW1.out ?_)
  have KS : keepBut [] w1 w1.drew := (keepBut.refl [] w1).drew
  refine wp_region_held_drew (S := fun W => keepBut [] w1 W) (by kernel_rfl) KS (fun _ => ?_)
  refine wpAnyH_take (i := 0) (oi := ⟨_, _, _, _, _, _⟩) (v := ?_) rfl (by kernel_rfl) (by kernel_rfl) (by kernel_rfl) (fun _ _ _ h => h) (Or.inl ⟨by rfl, ?_⟩) KS ?_
  rotate_left
  · intro w' hSw; (go_simp; try with_reducible rfl)
  try simp only [Act.put, List.setIfInBounds_toArray, List.set_cons_zero, List.set_cons_succ]
  refine wpAnyH_take (i := 1) (oi := ⟨_, _, _, _, _, _⟩) (v := ?_) rfl (by kernel_rfl) (by kernel_rfl) (by kernel_rfl) (fun _ _ _ h => h) (Or.inl ⟨by rfl, ?_⟩) KS ?_
  rotate_left
  · intro w' hSw; have hy := (HRG.out w' hSw).2; (go_simp; try with_reducible rfl)
  try simp only [Act.put, List.setIfInBounds_toArray, List.set_cons_zero, List.set_cons_succ]
  refine wpAnyH_take (i := 2) (oi := ⟨_, _, _, _, _, _⟩) (v := ?_) rfl (by kernel_rfl) (by kernel_rfl) (by kernel_rfl) (fun _ _ _ h => h) (Or.inl ⟨by rfl, ?_⟩) KS ?_
  rotate_left
  · intro w' hSw; (go_simp; try with_reducible rfl)
  try simp only [Act.put, List.setIfInBounds_toArray, List.set_cons_zero, List.set_cons_succ]
  refine wpAnyH_take (i := 3) (oi := ⟨_, _, _, _, _, _⟩) (v := ?_) rfl (by kernel_rfl) (by kernel_rfl) (by kernel_rfl) (fun _ _ _ h => h) (Or.inl ⟨by rfl, ?_⟩) KS ?_
  rotate_left
  · intro w' hSw; (go_simp; try with_reducible rfl)
  try simp only [Act.put, List.setIfInBounds_toArray, List.set_cons_zero, List.set_cons_succ]
  refine wpAnyH_take (i := 4) (oi := ⟨_, _, _, _, _, _⟩) (v := ?_) rfl (by kernel_rfl) (by kernel_rfl) (by kernel_rfl) (fun _ _ _ h => h) (Or.inl ⟨by rfl, ?_⟩) KS ?_
  rotate_left
  · intro w' hSw; (go_simp; try with_reducible rfl)
  try simp only [Act.put, List.setIfInBounds_toArray, List.set_cons_zero, List.set_cons_succ]
  refine wpAnyH_take (i := 5) (oi := ⟨_, _, _, _, _, _⟩) (v := ?_) rfl (by kernel_rfl) (by kernel_rfl) (by kernel_rfl) (fun _ _ _ h => h) (Or.inl ⟨by rfl, ?_⟩) KS ?_
  rotate_left
  · intro w' hSw; have hy := (HRG.out w' hSw).1; (go_simp; try with_reducible rfl)
  try simp only [Act.put, List.setIfInBounds_toArray, List.set_cons_zero, List.set_cons_succ]
  refine wpAnyH_take (i := 6) (oi := ⟨_, _, _, _, _, _⟩) (v := ?_) rfl (by kernel_rfl) (by kernel_rfl) (by kernel_rfl) (fun _ _ _ h => h) (Or.inl ⟨by rfl, ?_⟩) KS ?_
  rotate_left
  · intro w' hSw; (go_simp; try with_reducible rfl)
  try simp only [Act.put, List.setIfInBounds_toArray, List.set_cons_zero, List.set_cons_succ]
  refine wpAnyH_take (i := 7) (oi := ⟨_, _, _, _, _, _⟩) (v := ?_) rfl (by kernel_rfl) (by kernel_rfl) (by kernel_rfl) (fun _ _ _ h => h) (Or.inl ⟨by rfl, ?_⟩) KS ?_
  rotate_left
  · intro w' hSw; (go_simp; try with_reducible rfl)
  try simp only [Act.put, List.setIfInBounds_toArray, List.set_cons_zero, List.set_cons_succ]
  refine wpAnyH_done (by kernel_rfl) ?_ _
  have y0 : w1.cell? ⟨p, 0, none⟩ = some (.int .i64 s.epoch) := HP.out.1.cell 0
  have f0 := HP.out.1.free 0
  have y3 : w1.cell? ⟨q, 3, none⟩ = some (.int .i64 a.version) := HP.out.2.1.cell 3
  have f3 := HP.out.2.1.free 3
  have y2 : w1.cell? ⟨q, 2, none⟩ = some (.int .i64 a.code) := HP.out.2.1.cell 2
  have f2 := HP.out.2.1.free 2
  have yv : w1.cell? ⟨w.heap.size, 3, none⟩ = some (.int .i64 ver) := HP.out.2.2
  have n1 : p ≠ q := HN.out.1
  have n2 : q ≠ p := HN.out.1.symm
  go_wp2_with fail
  go_end0
  have k : keepBut [p, q] w (((w1.setCell ⟨p, 0, none⟩ (.int .i64 (s.epoch + 1))).setCell ⟨q, 3, none⟩ (.int .i64 (s.epoch + 1))).drew) := (((HK.out.more (by simp)).setCell _ _ (.inl (by simp))).setCell _ _ (.inl (by simp))).drew
  have rp : rowAt ((w1.setCell ⟨p, 0, none⟩ (.int .i64 (s.epoch + 1))).setCell ⟨q, 3, none⟩ (.int .i64 (s.epoch + 1))) p 67 #[.int .i64 (s.epoch + 1), ordN, s.kv, s.vv, ordI, s.iv, s.av] := (kset _ q 3 _).row (HP.out.1.set 0 (.int .i64 (s.epoch + 1))) (by simp; exact n1)
  have rq : rowAt ((w1.setCell ⟨p, 0, none⟩ (.int .i64 (s.epoch + 1))).setCell ⟨q, 3, none⟩ (.int .i64 (s.epoch + 1))) q 40 (anL { a with version := s.epoch + 1 } nilV).toArray := ((kset w1 p 0 _).row HP.out.2.1 (by simp; exact n2)).set 3 _
  have e0 : r.version = s.epoch + 1 := HVE.out.trans hv
  have e1 : raiseE s r = s.epoch + 1 := by unfold raiseE; rw [if_pos e0, e0]
  have e2 : actRaise s r a = { a with version := s.epoch + 1 } := by unfold actRaise; rw [if_pos e0, e0]
  exact ⟨rfl, by rw [e1]; exact isT.keepPQ HQ0.out.1 HQ0.out.2.1 HQ0.out.2.2 k rp, by rw [e2]; exact rq, k⟩
set_option maxHeartbeats 8000000 in
theorem actRaise_no (p q : Nat) (s : TS) (r : RQ) (ev : Value) (a : AN) (w : World) (h : isT w p s) (hq : rowAt w q 40 (anL a nilV).toArray) (hqa : q ∉ homes s.av) (hep : 0 ≤ s.epoch ∧ s.epoch ≤ 255) (hv : ¬ r.version = s.epoch + 1) :
    Calls Tryd.prog 55 #[.pointer (some ⟨p, 0, none⟩), .agg (rqL r ev).toArray, .pointer (some ⟨q, 0, none⟩)] w (raisePost p q s r a w) := by
  have hpq : p ≠ q := h.row.apart hq (by decide)
  have HQ0 := Lib.hid (And.intro h (And.intro hq hqa))
  obtain ⟨X, hX⟩ : ∃ X, rqL r ev = X := ⟨_, rfl⟩
  have hx3 : X.toArray[3]? = some (.int .i64 r.version) := by rw [← hX]; rfl
  rw [hX]
  obtain ⟨w1, hw1⟩ : ∃ w1, w.alloc (.cells X.toArray 31) = w1 := ⟨_, rfl⟩
  have r1 : rowAt w1 w.heap.size 31 X.toArray := hw1 ▸ rowAt.new _ _ _
  have k1 : keepBut [] w w1 := hw1 ▸ (keepBut.refl [] w).alloc _
  have HW1 := Lib.hid hw1
  have HRG : Hid (∀ W, keepBut [] w1 W → W.cell? ⟨p, 0, none⟩ = some (.int .i64 s.epoch) ∧ W.cell? ⟨w.heap.size, 3, none⟩ = some (.int .i64 r.version)) := Lib.hid (fun W k =>
    ⟨((h.over k1).over k).row.cell 0, ((k.row r1 (by simp)).cell 3).trans hx3⟩)
  have HK := Lib.hid k1
  have HP := Lib.hid (And.intro (h.over k1).row (And.intro (k1.row hq (by simp)) (r1.cell 3 |>.trans hx3)))
  have hw : IntKind.i64.wrap (s.epoch + 1) = s.epoch + 1 := by rw [IntKind.wrap_i64]; omega
  have HN := Lib.hid (And.intro hpq (And.intro (fun e : p = w.heap.size => Nat.lt_irrefl _ (e ▸ h.row.lt)) (fun e : q = w.heap.size => Nat.lt_irrefl _ (e ▸ hq.lt))))
  clear hw1 r1 k1 h hq hqa hX hx3 hpq
  generalize hver : r.version = ver at *
  have HVE := Lib.hid hver
  clear hver
  go_enter Tryd.func55, Tryd.ntmps55
  go_upto_region 1 with (with_reducible refine wpList_box_to _ _ rfl 31 (.tmp 1) rfl _ rfl HW1.out ?_)
  have KS : keepBut [] w1 w1.drew := (keepBut.refl [] w1).drew
  refine wp_region_held_drew (S := fun W => keepBut [] w1 W) (by kernel_rfl) KS (fun _ => ?_)
  refine wpAnyH_take (i := 0) (oi := ⟨_, _, _, _, _, _⟩) (v := ?_) rfl (by kernel_rfl) (by kernel_rfl) (by kernel_rfl) (fun _ _ _ h => h) (Or.inl ⟨by rfl, ?_⟩) KS ?_
  rotate_left
  · intro w' hSw; (go_simp; try with_reducible rfl)
  try simp only [Act.put, List.setIfInBounds_toArray, List.set_cons_zero, List.set_cons_succ]
  refine wpAnyH_take (i := 1) (oi := ⟨_, _, _, _, _, _⟩) (v := ?_) rfl (by kernel_rfl) (by kernel_rfl) (by kernel_rfl) (fun _ _ _ h => h) (Or.inl ⟨by rfl, ?_⟩) KS ?_
  rotate_left
  · intro w' hSw; have hy := (HRG.out w' hSw).2; (go_simp; try with_reducible rfl)
  try simp only [Act.put, List.setIfInBounds_toArray, List.set_cons_zero, List.set_cons_succ]
  refine wpAnyH_take (i := 2) (oi := ⟨_, _, _, _, _, _⟩) (v := ?_) rfl (by kernel_rfl) (by kernel_rfl) (by kernel_rfl) (fun _ _ _ h => h) (Or.inl ⟨by rfl, ?_⟩) KS ?_
  rotate_left
  · intro w' hSw; (go_simp; try with_reducible rfl)
  try simp only [Act.put, List.setIfInBounds_toArray, List.set_cons_zero, List.set_cons_succ]
  refine wpAnyH_take (i := 3) (oi := ⟨_, _, _, _, _, _⟩) (v := ?_) rfl (by kernel_rfl) (by kernel_rfl) (by kernel_rfl) (fun _ _ _ h => h) (Or.inl ⟨by rfl, ?_⟩) KS ?_
  rotate_left
  · intro w' hSw; (go_simp; try with_reducible rfl)
  try simp only [Act.put, List.setIfInBounds_toArray, List.set_cons_zero, List.set_cons_succ]
  refine wpAnyH_take (i := 4) (oi := ⟨_, _, _, _, _, _⟩) (v := ?_) rfl (by kernel_rfl) (by kernel_rfl) (by kernel_rfl) (fun _ _ _ h => h) (Or.inl ⟨by rfl, ?_⟩) KS ?_
  rotate_left
  · intro w' hSw; (go_simp; try with_reducible rfl)
  try simp only [Act.put, List.setIfInBounds_toArray, List.set_cons_zero, List.set_cons_succ]
  refine wpAnyH_take (i := 5) (oi := ⟨_, _, _, _, _, _⟩) (v := ?_) rfl (by kernel_rfl) (by kernel_rfl) (by kernel_rfl) (fun _ _ _ h => h) (Or.inl ⟨by rfl, ?_⟩) KS ?_
  rotate_left
  · intro w' hSw; have hy := (HRG.out w' hSw).1; (go_simp; try with_reducible rfl)
  try simp only [Act.put, List.setIfInBounds_toArray, List.set_cons_zero, List.set_cons_succ]
  refine wpAnyH_take (i := 6) (oi := ⟨_, _, _, _, _, _⟩) (v := ?_) rfl (by kernel_rfl) (by kernel_rfl) (by kernel_rfl) (fun _ _ _ h => h) (Or.inl ⟨by rfl, ?_⟩) KS ?_
  rotate_left
  · intro w' hSw; (go_simp; try with_reducible rfl)
  try simp only [Act.put, List.setIfInBounds_toArray, List.set_cons_zero, List.set_cons_succ]
  refine wpAnyH_take (i := 7) (oi := ⟨_, _, _, _, _, _⟩) (v := ?_) rfl (by kernel_rfl) (by kernel_rfl) (by kernel_rfl) (fun _ _ _ h => h) (Or.inl ⟨by rfl, ?_⟩) KS ?_
  rotate_left
  · intro w' hSw; (go_simp; try with_reducible rfl)
  try simp only [Act.put, List.setIfInBounds_toArray, List.set_cons_zero, List.set_cons_succ]
  refine wpAnyH_done (by kernel_rfl) ?_ _
  have y0 : w1.cell? ⟨p, 0, none⟩ = some (.int .i64 s.epoch) := HP.out.1.cell 0
  have f0 := HP.out.1.free 0
  have y3 : w1.cell? ⟨q, 3, none⟩ = some (.int .i64 a.version) := HP.out.2.1.cell 3
  have f3 := HP.out.2.1.free 3
  have y2 : w1.cell? ⟨q, 2, none⟩ = some (.int .i64 a.code) := HP.out.2.1.cell 2
  have f2 := HP.out.2.1.free 2
  have yv : w1.cell? ⟨w.heap.size, 3, none⟩ = some (.int .i64 ver) := HP.out.2.2
  have n1 : p ≠ q := HN.out.1
  have n2 : q ≠ p := HN.out.1.symm
  go_wp2_with fail
  go_end0
  have k : keepBut [p, q] w (((w1.setCell ⟨q, 2, none⟩ (.int .i64 2)).setCell ⟨q, 3, none⟩ (.int .i64 s.epoch)).drew) := (((HK.out.more (by simp)).setCell _ _ (.inl (by simp))).setCell _ _ (.inl (by simp))).drew
  have rp : rowAt ((w1.setCell ⟨q, 2, none⟩ (.int .i64 2)).setCell ⟨q, 3, none⟩ (.int .i64 s.epoch)) p 67 #[.int .i64 s.epoch, ordN, s.kv, s.vv, ordI, s.iv, s.av] := (kset _ q 3 _).row ((kset w1 q 2 _).row HP.out.1 (by simp; exact n1)) (by simp; exact n1)
  have rq : rowAt ((w1.setCell ⟨q, 2, none⟩ (.int .i64 2)).setCell ⟨q, 3, none⟩ (.int .i64 s.epoch)) q 40 (anL { a with code := 2, version := s.epoch } nilV).toArray := (HP.out.2.1.set 2 (.int .i64 2)).set 3 (.int .i64 s.epoch)
  have e0 : ¬ r.version = s.epoch + 1 := fun e => hv (HVE.out.symm.trans e)
  have e1 : raiseE s r = s.epoch := by unfold raiseE; rw [if_neg e0]
  have e2 : actRaise s r a = { a with code := 2, version := s.epoch } := by unfold actRaise; rw [if_neg e0]
  exact ⟨rfl, by rw [e1]; exact isT.keepPQ HQ0.out.1 HQ0.out.2.1 HQ0.out.2.2 k rp, by rw [e2]; exact rq, k⟩
end Go.Proofs.YtmlmhnhilemjhaaDoor
