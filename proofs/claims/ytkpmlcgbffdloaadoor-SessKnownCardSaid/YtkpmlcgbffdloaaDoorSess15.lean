/-
  SESS, 15: an answer is taken, if it is that to the request.
-/
import Derived.Test.YtkpmlcgbffdloaaDoorSess14
namespace Go.Proofs.YtkpmlcgbffdloaaDoor
open Go.RowKit
set_option linter.unusedVariables false
set_option maxRecDepth 100000

def SS.fits (s : SS) (a : AN) : Bool := s.waits && (decide (a.client = s.client) && decide (a.num = s.last))
def SS.ansP (s : SS) (a : AN) : (AN × Bool) × SS := if s.fits a then ((a, true), s.setWaits false) else ((anZero, false), s)
def ansPost (p q : Nat) (x : (AN × Bool) × SS) (cv ev : Value) (F K : List Nat) (T : List (PK × List Value)) (w : World) (e : Ending) (w' : World) : Prop :=
  ∃ av G, e = .returned (.tuple #[.agg (anL x.1.1 av).toArray, .bool x.1.2]) ∧ anV w' G x.1.1 av ∧ newIn w w' G ∧ isQ w' p q x.2 cv ev F K T ∧ keepBut [p] w w'
theorem run_buildAn (w : World) : (Instr.build 39 #[]).run Tryd.prog w = .ok (.agg (anL anZero nilV).toArray) w :=
  run_build w 39 #[] _ (by kernel_rfl)
theorem info_anS : (Tryd.prog.info? 39).map (·.size) = some 38 := by kernel_rfl
theorem anZero_val (w : World) (F : List Nat) : anV w F anZero nilV := ⟨anZero_name, bytesV.nil _ _⟩
theorem anL_set {a : AN} {ev ev' : Value} (h : a.name.length = 32) : (anL a ev).set 37 ev' = anL a ev' := by
  have e : (nameL a.name).length = 32 := by rw [nameL_len, h]
  unfold anL
  rw [show (37 : Nat) = 32 + 1 + 1 + 1 + 1 + 1 by rfl, List.set_cons_succ, List.set_cons_succ, List.set_cons_succ, List.set_cons_succ, List.set_cons_succ, List.set_append_right _ _ (by omega), e]
  rfl
section
variable (p q : Nat) (s : SS) (cv ev : Value) (F K : List Nat) (T : List (PK × List Value)) (a : AN) (xv : Value) (w : World) (h : isQ w p q s cv ev F K T)
include h
set_option maxHeartbeats 2000000 in
theorem ansQ_no (hc : s.fits a = false) :
    Calls Tryd.prog 46 #[.pointer (some ⟨p, 0, none⟩), .agg (anL a xv).toArray] w (ansPost p q ((anZero, false), s) cv ev F K T w) := by
  obtain ⟨X, hX⟩ : ∃ X, anL a xv = X := ⟨_, rfl⟩
  have x0 : X.toArray[0]? = some (.int .i64 a.client) := by rw [← hX]; rfl
  have x1 : X.toArray[1]? = some (.int .i64 a.num) := by rw [← hX]; rfl
  obtain ⟨Z, hZ⟩ : ∃ Z, anL anZero nilV = Z := ⟨_, rfl⟩
  have hzv := zv_an
  have hbz := run_buildAn
  have hzl := anZ_len
  have hz1 := anZ_one
  rw [hZ] at hzv hbz hzl hz1
  rw [hX]
  have k1 := (keepBut.refl [] w).alloc (.cells X.toArray 39)
  have r1 := rowAt.new w 39 X.toArray
  have hs1 : (w.alloc (.cells X.toArray 39)).heap.size = w.heap.size + 1 := World.size_alloc ..
  obtain ⟨w1, hw1⟩ : ∃ w1, w.alloc (.cells X.toArray 39) = w1 := ⟨_, rfl⟩
  rw [hw1] at k1 r1 hs1
  have k2 := (keepBut.refl [] w1).alloc (.cells Z.toArray 39)
  have r2 := rowAt.new w1 39 Z.toArray
  obtain ⟨w2, hw2⟩ : ∃ w2, w1.alloc (.cells Z.toArray 39) = w2 := ⟨_, rfl⟩
  rw [hw2] at k2 r2
  have r1' := k2.row r1 (by simp)
  have k12 := k1.then k2 (by simp)
  have h2 := h.over k12
  obtain ⟨b, hb⟩ : ∃ b, w.heap.size = b := ⟨_, rfl⟩
  obtain ⟨d, hd⟩ : ∃ d, w1.heap.size = d := ⟨_, rfl⟩
  have HS := Lib.hid (And.intro hb (And.intro hd hs1))
  have hpw := h.row.lt
  have hqw := h.ch.lt
  rw [hb] at r1'
  rw [hd] at r2
  have y0 := (r1'.cell 0).trans x0
  have y1 := (r1'.cell 1).trans x1
  obtain ⟨z0, _, _, _, _, _, _, _, z8, z9, _⟩ := h2.cells
  have HZ := Lib.hid (And.intro hZ (And.intro hzl (And.intro hz1 (And.intro hpw hqw))))
  have HW := Lib.hid (And.intro hw1 (And.intro hw2 hzv))
  have HBz := Lib.hid hbz
  have HZE := Lib.hid (congrArg Value.agg (anZero_cells.symm.trans (congrArg List.toArray hZ)))
  have R2 := Lib.hid (And.intro r2 (And.intro k12 h))
  have hcase : s.waits = false ∨ (s.waits = true ∧ (a.client != s.client) = true) ∨ (s.waits = true ∧ (a.client != s.client) = false ∧ (a.num != s.last) = true) := by
    unfold SS.fits at hc
    cases h : s.waits with
    | false => exact .inl rfl
    | true =>
      rw [h] at hc
      by_cases h1 : a.client = s.client
      · by_cases h2 : a.num = s.last
        · simp [h1, h2] at hc
        · exact .inr (.inr ⟨rfl, by simp [h1], by simp [h2]⟩)
      · exact .inr (.inl ⟨rfl, by simp [h1]⟩)
  clear h h2 k1 r1 k2 r2 k12 hw1 hw2 hzv hbz hzl hz1 hs1 hX x0 x1 hpw hqw r1' hc hZ
  generalize s.waits = sw at z9 hcase
  rcases hcase with rfl | ⟨rfl, hc1⟩ | ⟨rfl, hc1, hc2⟩
  all_goals
    go_enter Tryd.func46, Tryd.ntmps46
    go_upto_region 1 with (first
      | (with_reducible refine wpList_box_to _ _ rfl 39 (.tmp 1) rfl _ rfl HW.out.1 ?_)
      | (with_reducible refine wpList_alloc_to _ _ rfl 39 rfl _ HW.out.2.2 HW.out.2.1 ?_))
    try simp only [hb, hd]
    go_quiet (fail)
    have k3 : keepBut [] w2 (w2.drewN nq) := (keepBut.refl [] w2).drewN nq
    generalize w2.drewN nq = w3 at k3 ⊢
    have r3 := k3.row R2.out.1 (by simp)
    have kw3 := R2.out.2.1.then k3 (by simp)
    have HT := Lib.hid (And.intro r3 (And.intro kw3 (r3.there (o := 0) (n := 38) (by rw [List.size_toArray, HZ.out.2.1]; decide))))
    clear r3 kw3 k3 y0 y1 z0 z8 z9
    go_wp2_with (first
      | (refine wpList_build_to _ rfl 39 #[] rfl (.agg Z.toArray) #[] rfl (HBz.out _) ?_)
      | (refine wpList_store_mid rfl 39 (.tmp 4) (.tmp 29) rfl d 0 Z.toArray rfl HZE.out (by rw [List.size_toArray, HZ.out.2.1]; exact HT.out.2.2) (by rw [List.size_toArray, HZ.out.2.1]; exact info_anS) (by simpa using HZ.out.2.2.1) ?_))
    have r4 := HT.out.1.setL (vs := Z) (o := 0)
    rw [putL_all (by rw [List.size_toArray])] at r4
    have k4 : keepBut [] w (w3.setCells d 0 Z) := HT.out.2.1.setL (.inr (by have := HS.out; omega))
    refine bodyPost_ret (results_row_tmp rfl _ _ d 39 _ (0, 0) _ rfl r4 Tryd.underlying39 rfl (by rw [List.size_toArray, HZ.out.2.1]; exact info_anS)) rfl ?_
    exact ⟨nilV, [], by rw [HZ.out.1]; rfl, anZero_val _ _, by simp [newIn], R2.out.2.2.over k4, k4.more (by simp)⟩
set_option maxHeartbeats 2000000 in
theorem ansQ_yes (G : List Nat) (hx : anV w G a xv) (hGp : ∀ y ∈ G, y ≠ p) (hl : a.env.length ≤ 1000000) (hc : s.fits a = true) :
    Calls Tryd.prog 46 #[.pointer (some ⟨p, 0, none⟩), .agg (anL a xv).toArray] w (ansPost p q ((a, true), s.setWaits false) cv ev F K T w) := by
  have hXl := anL_len (ev := xv) hx.1
  have x37 := anL_env (ev := xv) hx.1
  have HA := Lib.hid hx
  obtain ⟨X, hX⟩ : ∃ X, anL a xv = X := ⟨_, rfl⟩
  rw [hX] at hXl x37
  have x0 : X.toArray[0]? = some (.int .i64 a.client) := by rw [← hX]; rfl
  have x1 : X.toArray[1]? = some (.int .i64 a.num) := by rw [← hX]; rfl
  obtain ⟨Z, hZ⟩ : ∃ Z, anL anZero nilV = Z := ⟨_, rfl⟩
  have hzv := zv_an
  have hbz := run_buildAn
  have hzl := anZ_len
  have hz1 := anZ_one
  rw [hZ] at hzv hbz hzl hz1
  rw [hX]
  have k1 := (keepBut.refl [] w).alloc (.cells X.toArray 39)
  have r1 := rowAt.new w 39 X.toArray
  have hs1 : (w.alloc (.cells X.toArray 39)).heap.size = w.heap.size + 1 := World.size_alloc ..
  obtain ⟨w1, hw1⟩ : ∃ w1, w.alloc (.cells X.toArray 39) = w1 := ⟨_, rfl⟩
  rw [hw1] at k1 r1 hs1
  have k2 := (keepBut.refl [] w1).alloc (.cells Z.toArray 39)
  have r2 := rowAt.new w1 39 Z.toArray
  obtain ⟨w2, hw2⟩ : ∃ w2, w1.alloc (.cells Z.toArray 39) = w2 := ⟨_, rfl⟩
  rw [hw2] at k2 r2
  have r1' := k2.row r1 (by simp)
  have k12 := k1.then k2 (by simp)
  have h2 := h.over k12
  obtain ⟨b, hb⟩ : ∃ b, w.heap.size = b := ⟨_, rfl⟩
  obtain ⟨d, hd⟩ : ∃ d, w1.heap.size = d := ⟨_, rfl⟩
  have HS := Lib.hid (And.intro hb (And.intro hd hs1))
  have hpw := h.row.lt
  have hqw := h.ch.lt
  rw [hb] at r1'
  rw [hd] at r2
  have y0 := (r1'.cell 0).trans x0
  have y1 := (r1'.cell 1).trans x1
  have y37 := (r1'.cell 37).trans x37
  have HR1 := Lib.hid r1'
  have HX := Lib.hid (And.intro hX hXl)
  have HCl := Lib.hid (fun w' (hk : keepBut [p] w w') => cloneB_any G xv a.env w' (hx.2.keep hk (fun y hy => by simpa using hGp y hy)) hl)
  obtain ⟨z0, _, _, _, _, _, _, _, z8, z9, _⟩ := h2.cells
  have HZ := Lib.hid (And.intro hZ (And.intro hzl (And.intro hz1 (And.intro hpw hqw))))
  have HW := Lib.hid (And.intro hw1 (And.intro hw2 hzv))
  have R2 := Lib.hid (And.intro r2 (And.intro k12 h))
  have hcase : s.waits = true ∧ (a.client != s.client) = false ∧ (a.num != s.last) = false := by
    unfold SS.fits at hc
    simp only [Bool.and_eq_true, decide_eq_true_eq] at hc
    exact ⟨hc.1, by simp [hc.2.1], by simp [hc.2.2]⟩
  obtain ⟨hw, hc1, hc2⟩ := hcase
  rw [hw] at z9
  clear h h2 k1 r1 k2 r2 k12 hw1 hw2 hzv hbz hzl hz1 hs1 hX x0 x1 x37 hpw hqw r1' hc hZ hXl hw hx hl
  go_enter Tryd.func46, Tryd.ntmps46
  go_upto_region 1 with (first
    | (with_reducible refine wpList_box_to _ _ rfl 39 (.tmp 1) rfl _ rfl HW.out.1 ?_)
    | (with_reducible refine wpList_alloc_to _ _ rfl 39 rfl _ HW.out.2.2 HW.out.2.1 ?_))
  try simp only [hb, hd]
  go_quiet (fail)
  have k3 : keepBut [] w2 (w2.drewN nq) := (keepBut.refl [] w2).drewN nq
  generalize w2.drewN nq = w3 at k3 ⊢
  have kw3 := R2.out.2.1.then k3 (by simp)
  have h3 := R2.out.2.2.over kw3
  have f9 := h3.row.free 9
  obtain ⟨_, _, _, _, _, _, _, _, _, v9, _⟩ := h3.cells
  have hp3 : b ≠ p ∧ d ≠ p := by have := HZ.out.2.2.2; have := HS.out; omega
  obtain ⟨a4, k4⟩ := h3.waits false
  have r3 := k4.row (k3.row HR1.out (by simp)) (by simpa using hp3.1)
  have q3 := k4.row (k3.row R2.out.1 (by simp)) (by simpa using hp3.2)
  have H3 := Lib.hid (And.intro a4 (And.intro k4 (And.intro kw3 (And.intro r3 q3))))
  clear h3 a4 k4 kw3 k3 y0 y1 z0 z8 z9 y37 r3 q3 hp3
  go_upto_region 4 with fail
  obtain ⟨w4, hw4⟩ : ∃ w4, w3.setCell ⟨p, 9, none⟩ (.bool false) = w4 := ⟨_, rfl⟩
  rw [hw4] at H3 ⊢
  have y37 : w4.cell? ⟨b, 37, none⟩ = some xv := by rw [H3.out.2.2.2.1.cell, ← HX.out.1]; exact anL_env HA.out.1
  have hw04 : keepBut [p] w w4 := (H3.out.2.2.1.more (by simp)).then H3.out.2.1 (fun x hx => .inl hx)
  have HC := Lib.hid (HCl.out w4 hw04)
  have H4 := Lib.hid hw04
  clear hw4 f9 v9 hw04 hGp HCl
  go_upto_region 5 with (first
    | (go_at_call 59; (with_reducible refine HC.out.mono ?_); rintro e w5 ⟨v, rfl, G', hv, hG', k5⟩; obtain ⟨A3, c3, g3, hve, _⟩ := id hv; subst hve; have r5 := k5.row H3.out.2.2.2.1 (by simp); have u5 := r5.cell 37; rw [← HX.out.1, anL_env HA.out.1] at u5; have f5 := r5.free 37; have H5 := Lib.hid (And.intro hv (And.intro hG' (And.intro k5 r5))); clear hv hG' k5 r5))
  have r6 := H5.out.2.2.2.set 37 (.slice A3 a.env.length c3)
  have e6 : X.toArray.setIfInBounds 37 (.slice A3 a.env.length c3) = (anL a (.slice A3 a.env.length c3)).toArray := by rw [← HX.out.1]; simpa using anL_set (ev := xv) (ev' := .slice A3 a.env.length c3) HA.out.1
  rw [e6] at r6
  have k6 : keepBut [b] w5 (w5.setCell ⟨b, 37, none⟩ (.slice A3 a.env.length c3)) := (keepBut.refl _ _).setCell _ _ (.inl (by simp))
  have hbd : b < w1.heap.size ∧ d < w2.heap.size ∧ b < d ∧ p < b ∧ q < b := by have := HS.out; have := HZ.out.2.2.2; have := R2.out.1.lt; omega
  have hs24 := Nat.le_trans (Nat.le_trans (R2.out.1.lt) (Nat.le_refl _)) (Nat.le_refl w2.heap.size)
  have q6 := k6.row (H5.out.2.2.1.row H3.out.2.2.2.2 (by simp)) (by simp only [List.mem_singleton]; omega)
  have hd4 := H3.out.2.2.2.2.lt
  have hv6 := H5.out.1.keep k6 (fun y hy hm => by
    have h1 := (H5.out.2.1 y hy).1
    simp only [List.mem_singleton] at hm
    omega)
  have h6 := (H3.out.1.over H5.out.2.2.1).keep k6 (by simp only [List.mem_singleton]; omega) (by simp only [List.mem_singleton]; omega) (fun y hy hm => by
    have h1 := (R2.out.2.2.far y (by simp [hy])).1
    have h2 := HS.out.1
    simp only [List.mem_singleton] at hm
    omega) (fun y hy hm => by
    have h1 := (R2.out.2.2.far y (by simp [hy])).1
    have h2 := HS.out.1
    simp only [List.mem_singleton] at hm
    omega)
  have hs6 := k6.size
  have kw6 : keepBut [p] w (w5.setCell ⟨b, 37, none⟩ (.slice A3 a.env.length c3)) := (H4.out.then (H5.out.2.2.1.more (by simp)) (fun x hx => .inl hx)).then k6 (fun x hx => .inr (by simp only [List.mem_singleton] at hx; have := HS.out.1; omega))
  generalize hw6 : w5.setCell ⟨b, 37, none⟩ (.slice A3 a.env.length c3) = w6 at r6 k6 q6 hv6 h6 hs6 kw6 ⊢
  obtain ⟨Y, hY⟩ : ∃ Y, anL a (.slice A3 a.env.length c3) = Y := ⟨_, rfl⟩
  have hYl : Y.length = 38 := by rw [← hY]; exact anL_len HA.out.1
  have hYo : ∀ u ∈ Y, u.oneCell' = true := by rw [← hY]; exact anL_one a rfl
  rw [hY] at r6
  have H6 := Lib.hid (And.intro r6.rangeAll (And.intro q6 (And.intro hv6 (And.intro h6 (And.intro hs6 kw6)))))
  have HY := Lib.hid (And.intro hY (And.intro hYl hYo))
  have hth := q6.there (o := 0) (n := 38) (by rw [List.size_toArray, HZ.out.2.1]; decide)
  have HT := Lib.hid hth
  have HD := Lib.hid (And.intro hbd hd4)
  clear r6 k6 q6 hv6 h6 hs6 kw6 hY hYl hYo hth hw6 e6 u5 f5 hd4 hs24 hbd y37
  go_wp2_with (first
    | (refine wpList_load_mid rfl 39 (.tmp 3) rfl b 0 rfl Y _ H6.out.1 Tryd.underlying39 rfl (by rw [HY.out.2.1]; exact info_anS) ?_)
    | (refine wpList_store_mid rfl 39 (.tmp 4) (.tmp 37) rfl d 0 Y.toArray rfl rfl (by rw [List.size_toArray, HY.out.2.1]; exact HT.out) (by rw [List.size_toArray, HY.out.2.1]; exact info_anS) (by simpa using HY.out.2.2) ?_))
  have r7 := H6.out.2.1.setL (vs := Y) (o := 0)
  rw [putL_all (by rw [List.size_toArray, HY.out.2.1, HZ.out.2.1])] at r7
  have k7 : keepBut [d] w6 (w6.setCells d 0 Y) := (keepBut.refl _ _).setL (.inl (by simp))
  refine bodyPost_ret (results_row_tmp rfl _ _ d 39 _ (0, 0) _ rfl r7 Tryd.underlying39 rfl (by rw [List.size_toArray, HY.out.2.1]; exact info_anS)) rfl ?_
  have hs45 := H5.out.2.2.1.size
  refine ⟨.slice A3 a.env.length c3, G', by rw [HY.out.1]; rfl, ⟨HA.out.1, H6.out.2.2.1.keep k7 (fun y hy hm => ?_)⟩, fun y hy => ⟨?_, ?_⟩, H6.out.2.2.2.1.keep k7 ?_ ?_ (fun y hy hm => ?_) (fun y hy hm => ?_), H6.out.2.2.2.2.2.then k7 (fun x hx => .inr ?_)⟩
  · have h1 := (H5.out.2.1 y hy).1
    simp only [List.mem_singleton] at hm
    have := HD.out
    omega
  · have h1 := (H5.out.2.1 y hy).1
    have := HD.out
    have := HS.out.1
    omega
  · have h1 := (H5.out.2.1 y hy).2
    have h2 := k7.size
    have h3 := H6.out.2.2.2.2.1
    omega
  · simp only [List.mem_singleton]; have := HD.out; omega
  · simp only [List.mem_singleton]; have := HD.out; omega
  · have h1 := (R2.out.2.2.far y (by simp [hy])).1
    have h2 := HS.out.1
    have := HD.out
    simp only [List.mem_singleton] at hm
    omega
  · have h1 := (R2.out.2.2.far y (by simp [hy])).1
    have h2 := HS.out.1
    have := HD.out
    simp only [List.mem_singleton] at hm
    omega
  · simp only [List.mem_singleton] at hx
    have := HD.out
    have := HS.out.1
    omega
theorem ansQ_any (G : List Nat) (hx : anV w G a xv) (hGp : ∀ y ∈ G, y ≠ p) (hl : a.env.length ≤ 1000000) :
    Calls Tryd.prog 46 #[.pointer (some ⟨p, 0, none⟩), .agg (anL a xv).toArray] w (ansPost p q (s.ansP a) cv ev F K T w) := by
  unfold SS.ansP
  cases hc : s.fits a with
  | true => rw [if_pos rfl]; exact ansQ_yes p q s cv ev F K T a xv w h G hx hGp hl hc
  | false => rw [if_neg (by simp)]; exact ansQ_no p q s cv ev F K T a xv w h hc
end
end Go.Proofs.YtkpmlcgbffdloaaDoor
