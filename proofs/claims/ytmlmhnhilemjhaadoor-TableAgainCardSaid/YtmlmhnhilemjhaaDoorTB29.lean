/-
  TABLE, 29: Do, where no act is done.
-/
import Derived.Test.YtmlmhnhilemjhaaDoorTB28
namespace Go.Proofs.YtmlmhnhilemjhaaDoor
open Go.RowKit
set_option linter.unusedVariables false
set_option maxRecDepth 100000
set_option linter.unusedSimpArgs false

def PT.done (P : PT) (r : RQ) : PT × AN × Int :=
  if r.tok = false then (P, anZero, 2)
  else if r.num = (P.last r.client).num then (P, P.last r.client, 0)
  else if r.num < (P.last r.client).num then (P, ⟨r.client, r.num, 3, 0, P.epoch, r.name, []⟩, 0)
  else (PT.putA (P.act r ⟨r.client, r.num, 0, 0, 0, r.name, []⟩).1 { (P.act r ⟨r.client, r.num, 0, 0, 0, r.name, []⟩).2 with epoch := (P.act r ⟨r.client, r.num, 0, 0, 0, r.name, []⟩).1.epoch },
    { (P.act r ⟨r.client, r.num, 0, 0, 0, r.name, []⟩).2 with epoch := (P.act r ⟨r.client, r.num, 0, 0, 0, r.name, []⟩).1.epoch }, 0)
def own (p : Nat) (s : TS) : List Nat := p :: (homes s.kv ++ homes s.vv ++ (homes s.iv ++ homes s.av))
structure doPost (p : Nat) (s : TS) (x : PT × AN × Int) (w : World) (e : Ending) (w' : World) : Prop where
  ret : ∃ v G, e = .returned (.tuple #[.agg (anL x.2.1 v).toArray, .int .i64 x.2.2]) ∧ bytesV w' G v x.2.1.env ∧ u8rows w' G ∧ ∀ y ∈ G, w.heap.size ≤ y ∧ y < w'.heap.size
  is : ∃ s', isT w' p s' ∧ s'.pure = x.1 ∧ ∀ y ∈ own p s', y ∈ own p s ∨ w.heap.size ≤ y
  kept : keepBut (own p s) w w'
theorem tok_client {r : RQ} (h : r.tok = true) : 0 ≤ r.client ∧ r.client ≤ 1000000 := by
  unfold RQ.tok at h
  have h1 := inP_iff.1 (Bool.and_eq_true_iff.1 h).1
  omega
set_option maxHeartbeats 8000000 in
theorem do_bad (p : Nat) (s : TS) (F : List Nat) (r : RQ) (ev : Value) (w : World) (h : isT w p s) (hr : rqV w F r ev) (hsz : sizesAt w) (ht : r.tok = false) :
    Calls Tryd.prog 11 #[.pointer (some ⟨p, 0, none⟩), .agg (rqL r ev).toArray] w (doPost p s (s.pure, anZero, 2) w) := by
  obtain ⟨X, hX⟩ : ∃ X, rqL r ev = X := ⟨_, rfl⟩
  have hXn : ∀ j v, (nameL r.name)[j]? = some v → X.toArray[4 + j]? = some v := by rw [← hX]; exact rqL_name r ev
  have hX0 : X.toArray[0]? = some (.int .i64 r.client) := by rw [← hX]; rfl
  have hX1 : X.toArray[1]? = some (.int .i64 r.num) := by rw [← hX]; rfl
  have hX2 : X.toArray[2]? = some (.int .i64 r.kind) := by rw [← hX]; rfl
  have hXl : X.length = 37 := by rw [← hX]; exact rqL_len hr.1
  have hXo : ∀ v ∈ X, v.oneCell' = true := by rw [← hX]; exact rqL_one r hr.2.one
  obtain ⟨Z, hZ⟩ : ∃ Z, anL anZero nilV = Z := ⟨_, rfl⟩
  have hz := zv_an
  have hzb := build_an0
  rw [hZ] at hz hzb
  have hZl : Z.length = 38 := by rw [← hZ]; exact anZ_len
  have hZo : ∀ v ∈ Z, v.oneCell' = true := by rw [← hZ]; exact anZ_one
  rw [hX]
  obtain ⟨w1, hw1⟩ : ∃ w1, w.alloc (.cells X.toArray 31) = w1 := ⟨_, rfl⟩
  obtain ⟨w2, hw2⟩ : ∃ w2, w1.alloc (.cells Z.toArray 40) = w2 := ⟨_, rfl⟩
  obtain ⟨b1, hb1⟩ : ∃ b1, w.heap.size = b1 := ⟨_, rfl⟩
  obtain ⟨b2, hb2⟩ : ∃ b2, w1.heap.size = b2 := ⟨_, rfl⟩
  have r0 : rowAt w1 b1 31 X.toArray := hb1 ▸ hw1 ▸ rowAt.new _ _ _
  have r2 : rowAt w2 b2 40 Z.toArray := hb2 ▸ hw2 ▸ rowAt.new _ _ _
  have k1 : keepBut [] w w1 := hw1 ▸ (keepBut.refl [] w).alloc _
  have k2 : keepBut [] w1 w2 := hw2 ▸ (keepBut.refl [] w1).alloc _
  have r1 := k2.row r0 (by simp)
  have k12 := k1.then k2 (by simp)
  have hlt : b1 < b2 := hb2 ▸ r0.lt
  have HW1 := Lib.hid hw1
  have HW2 := Lib.hid hw2
  have HB1 := Lib.hid hb1
  have HB2 := Lib.hid hb2
  have HRR := Lib.hid (And.intro r1 (And.intro r2 hlt))
  have HT := Lib.hid (h.over k12)
  have HK := Lib.hid k12
  have HN := Lib.hid hr.1
  have HV : Hid (rqV w2 F r ev) := Lib.hid ⟨hr.1, hr.2.keep k12 (by simp)⟩
  have HCK := Lib.hid (hX ▸ tcheck_any F r ev w2 ⟨hr.1, hr.2.keep k12 (by simp)⟩ (hsz.keep k12 (by simp)))
  have HX := Lib.hid (And.intro hXl (And.intro hXo hX))
  have HZ := Lib.hid (And.intro hz (And.intro hZl (And.intro hZo (And.intro hzb hZ))))
  have HRG : Hid (∀ W, keepBut [] w2 W → isT W p s ∧ W.cell? ⟨b1, 0, none⟩ = some (.int .i64 r.client)) := Lib.hid (fun W k => ⟨(h.over k12).over k, ((k.row r1 (by simp)).cell 0).trans hX0⟩)
  have HX1 := Lib.hid (And.intro hX0 (And.intro hX1 (And.intro hX2 hXn)))
  have HH := Lib.hid h
  have HR0 := Lib.hid hr
  have HTK := Lib.hid ht
  clear ht
  clear hw1 hw2 r0 r1 r2 k1 k2 k12 h hr hsz hX hXn hX0 hX1 hX2 hXl hXo hz hzb hZ hZl hZo hlt hb1
  go_enter Tryd.func11, Tryd.ntmps11
  go_upto_region 1 with (first
    | (with_reducible refine wpList_box_to _ _ rfl 31 (.tmp 1) rfl _ rfl HW1.out ?_)
    | (with_reducible refine wpList_alloc_to _ _ rfl 40 rfl _ HZ.out.1 HW2.out ?_))
  try rw [HB1.out]
  try rw [HB2.out]
  try clear hb2
  go_upto_region 4 with (first
    | (go_at_call 23; refine (none_no p s _ HT.out).mono ?_; rintro e w' ⟨rfl, rfl⟩)
    | (refine wpList_load_mid rfl 31 (.tmp 3) rfl b1 0 rfl X _ HRR.out.1.rangeAll Tryd.underlying31 rfl (by rw [HX.out.1]; exact info_rq) ?_)
    | (go_at_call 26; refine HCK.out.mono ?_; rintro e w3 ⟨rfl, kk⟩; have KC := Lib.hid kk; clear kk))
  rw [HTK.out]
  have R2 := Lib.hid (KC.out.row HRR.out.2.1 (by simp))
  go_wp2_with (first
    | (refine wpList_store_mid rfl 40 (.tmp 4) (.tmp 18) rfl b2 0 (anL anZero nilV).toArray rfl rfl (R2.out.there (by simp only [List.size_toArray]; rw [anZ_len, HZ.out.2.1]; omega)) (by rw [List.size_toArray, anZ_len]; exact info_an) (all_oneCell_toArray anZ_one) ?_; rw [HZ.out.2.2.2.2]))
  have r7 := R2.out.setL (vs := Z) (o := 0)
  rw [putL_all (by simp only [List.size_toArray])] at r7
  have k7 := (keepBut.refl [b2] w3).setL (vs := Z) (g := b2) (o := 0) (.inl (by simp))
  refine bodyPost_ret (results_row_tmp rfl _ _ b2 40 _ (0, 0) _ rfl r7 Tryd.underlying40 rfl (by rw [List.size_toArray, HZ.out.2.1]; exact info_an)) rfl ?_
  have kk : keepBut [] w (w3.setCells b2 0 Z) := (HK.out.then KC.out (by simp)).then k7 (fun x hx => by simp at hx; subst hx; right; have := HRR.out.2.2; have := HB1.out; omega)
  exact ⟨⟨nilV, [], by rw [← HZ.out.2.2.2.2]; rfl, bytesV.nil _ _, fun y hy => by simp at hy, fun y hy => by simp at hy⟩, ⟨s, HH.out.over kk, rfl, fun y hy => .inl hy⟩, kk.more (by simp)⟩
set_option maxHeartbeats 8000000 in
theorem do_same (p : Nat) (s : TS) (F : List Nat) (r : RQ) (ev : Value) (w : World) (h : isT w p s) (hr : rqV w F r ev) (hsz : sizesAt w) (ht : r.tok = true) (hn : r.num = (ansI s r.client).num) :
    Calls Tryd.prog 11 #[.pointer (some ⟨p, 0, none⟩), .agg (rqL r ev).toArray] w (doPost p s (s.pure, ansI s r.client, 0) w) := by
  obtain ⟨X, hX⟩ : ∃ X, rqL r ev = X := ⟨_, rfl⟩
  have hXn : ∀ j v, (nameL r.name)[j]? = some v → X.toArray[4 + j]? = some v := by rw [← hX]; exact rqL_name r ev
  have hX0 : X.toArray[0]? = some (.int .i64 r.client) := by rw [← hX]; rfl
  have hX1 : X.toArray[1]? = some (.int .i64 r.num) := by rw [← hX]; rfl
  have hX2 : X.toArray[2]? = some (.int .i64 r.kind) := by rw [← hX]; rfl
  have hXl : X.length = 37 := by rw [← hX]; exact rqL_len hr.1
  have hXo : ∀ v ∈ X, v.oneCell' = true := by rw [← hX]; exact rqL_one r hr.2.one
  obtain ⟨Z, hZ⟩ : ∃ Z, anL anZero nilV = Z := ⟨_, rfl⟩
  have hz := zv_an
  have hzb := build_an0
  rw [hZ] at hz hzb
  have hZl : Z.length = 38 := by rw [← hZ]; exact anZ_len
  have hZo : ∀ v ∈ Z, v.oneCell' = true := by rw [← hZ]; exact anZ_one
  rw [hX]
  obtain ⟨w1, hw1⟩ : ∃ w1, w.alloc (.cells X.toArray 31) = w1 := ⟨_, rfl⟩
  obtain ⟨w2, hw2⟩ : ∃ w2, w1.alloc (.cells Z.toArray 40) = w2 := ⟨_, rfl⟩
  obtain ⟨b1, hb1⟩ : ∃ b1, w.heap.size = b1 := ⟨_, rfl⟩
  obtain ⟨b2, hb2⟩ : ∃ b2, w1.heap.size = b2 := ⟨_, rfl⟩
  have r0 : rowAt w1 b1 31 X.toArray := hb1 ▸ hw1 ▸ rowAt.new _ _ _
  have r2 : rowAt w2 b2 40 Z.toArray := hb2 ▸ hw2 ▸ rowAt.new _ _ _
  have k1 : keepBut [] w w1 := hw1 ▸ (keepBut.refl [] w).alloc _
  have k2 : keepBut [] w1 w2 := hw2 ▸ (keepBut.refl [] w1).alloc _
  have r1 := k2.row r0 (by simp)
  have k12 := k1.then k2 (by simp)
  have hlt : b1 < b2 := hb2 ▸ r0.lt
  have HW1 := Lib.hid hw1
  have HW2 := Lib.hid hw2
  have HB1 := Lib.hid hb1
  have HB2 := Lib.hid hb2
  have HRR := Lib.hid (And.intro r1 (And.intro r2 hlt))
  have HT := Lib.hid (h.over k12)
  have HK := Lib.hid k12
  have HN := Lib.hid hr.1
  have HV : Hid (rqV w2 F r ev) := Lib.hid ⟨hr.1, hr.2.keep k12 (by simp)⟩
  have HCK := Lib.hid (hX ▸ tcheck_any F r ev w2 ⟨hr.1, hr.2.keep k12 (by simp)⟩ (hsz.keep k12 (by simp)))
  have HX := Lib.hid (And.intro hXl (And.intro hXo hX))
  have HZ := Lib.hid (And.intro hz (And.intro hZl (And.intro hZo (And.intro hzb hZ))))
  have HRG : Hid (∀ W, keepBut [] w2 W → isT W p s ∧ W.cell? ⟨b1, 0, none⟩ = some (.int .i64 r.client)) := Lib.hid (fun W k => ⟨(h.over k12).over k, ((k.row r1 (by simp)).cell 0).trans hX0⟩)
  have HX1 := Lib.hid (And.intro hX0 (And.intro hX1 (And.intro hX2 hXn)))
  have HH := Lib.hid h
  have HR0 := Lib.hid hr
  obtain ⟨hav, hal⟩ := h.ansV r.client
  obtain ⟨L, hL⟩ : ∃ L, anL (ansI s r.client) (evI s r.client) = L := ⟨_, rfl⟩
  have HL := Lib.hid (And.intro (show L.length = 38 by rw [← hL]; exact anL_len hav.1) (And.intro (show ∀ v ∈ L, v.oneCell' = true by rw [← hL]; exact anL_one _ hav.2.one) (And.intro hL (show L.toArray[1]? = some (.int .i64 (ansI s r.client).num) by rw [← hL]; rfl))))
  have HAV : Hid (anV w2 s.F (ansI s r.client) (evI s r.client) ∧ (ansI s r.client).env.length ≤ 1000) := Lib.hid ⟨⟨hav.1, hav.2.keep k12 (by simp)⟩, hal⟩
  have HTK := Lib.hid ht
  have HCL := Lib.hid (tok_client ht)
  have HNE := Lib.hid hn
  clear hav hal hL ht hn
  clear hw1 hw2 r0 r1 r2 k1 k2 k12 h hr hsz hX hXn hX0 hX1 hX2 hXl hXo hz hzb hZ hZl hZo hlt hb1
  go_enter Tryd.func11, Tryd.ntmps11
  go_upto_region 1 with (first
    | (with_reducible refine wpList_box_to _ _ rfl 31 (.tmp 1) rfl _ rfl HW1.out ?_)
    | (with_reducible refine wpList_alloc_to _ _ rfl 40 rfl _ HZ.out.1 HW2.out ?_))
  try rw [HB1.out]
  try rw [HB2.out]
  try clear hb2
  go_upto_region 4 with (first
    | (go_at_call 23; refine (none_no p s _ HT.out).mono ?_; rintro e w' ⟨rfl, rfl⟩)
    | (refine wpList_load_mid rfl 31 (.tmp 3) rfl b1 0 rfl X _ HRR.out.1.rangeAll Tryd.underlying31 rfl (by rw [HX.out.1]; exact info_rq) ?_)
    | (go_at_call 26; refine HCK.out.mono ?_; rintro e w3 ⟨rfl, kk⟩; have KC := Lib.hid kk; clear kk))
  rw [HTK.out]
  have R1 := Lib.hid (KC.out.row HRR.out.1 (by simp))
  have R2 := Lib.hid (KC.out.row HRR.out.2.1 (by simp))
  have HT3 := Lib.hid (HT.out.over KC.out)
  go_upto_region 6 with fail
  have hsz3 : b2 < w3.heap.size := R2.out.lt
  have HS3 := Lib.hid hsz3
  clear hsz3
  have HR3 : Hid (∀ W, keepBut [] w3 W → isT W p s ∧ W.cell? ⟨b1, 0, none⟩ = some (.int .i64 r.client)) := Lib.hid (fun W k => HRG.out W (KC.out.then k (by simp)))
  have KS : keepBut [] w3 w3.drew := (keepBut.refl [] w3).drew
  refine wp_region_held_drew (S := fun W => keepBut [] w3 W) (by kernel_rfl) KS (fun _ => ?_)
  refine wpAnyH_take (i := 0) (oi := ⟨_, _, _, _, _, _⟩) (v := ?_) rfl (by kernel_rfl) (by kernel_rfl) (by kernel_rfl) (fun _ _ _ h => h) (Or.inl ⟨by rfl, ?_⟩) KS ?_
  rotate_left
  · intro w' hSw; (go_simp; try with_reducible rfl)
  try simp only [Act.put, List.setIfInBounds_toArray, List.set_cons_zero, List.set_cons_succ]
  refine wpAnyH_take (i := 1) (oi := ⟨_, _, _, _, _, _⟩) (v := ?_) rfl (by kernel_rfl) (by kernel_rfl) (by kernel_rfl) (fun _ _ _ h => h) (Or.inl ⟨by rfl, ?_⟩) KS ?_
  rotate_left
  · intro w' hSw; (go_simp; try with_reducible rfl)
  try simp only [Act.put, List.setIfInBounds_toArray, List.set_cons_zero, List.set_cons_succ]
  refine wpAnyH_take (i := 2) (oi := ⟨_, _, _, _, _, _⟩) (v := ?_) rfl (by kernel_rfl) (by kernel_rfl) (by kernel_rfl) (fun _ _ _ h => h) (Or.inl ⟨by rfl, ?_⟩) KS ?_
  rotate_left
  · intro w' hSw; (go_simp; try with_reducible rfl)
  try simp only [Act.put, List.setIfInBounds_toArray, List.set_cons_zero, List.set_cons_succ]
  refine wpAnyH_take (i := 3) (oi := ⟨_, _, _, _, _, _⟩) (v := ?_) rfl (by kernel_rfl) (by kernel_rfl) (by kernel_rfl) (fun _ _ _ h => h) (Or.inl ⟨by rfl, ?_⟩) KS ?_
  rotate_left
  · intro w' hSw; (go_simp; try with_reducible rfl)
  try simp only [Act.put, List.setIfInBounds_toArray, List.set_cons_zero, List.set_cons_succ]
  refine wpAnyH_take (i := 4) (oi := ⟨_, _, _, _, _, _⟩) (v := ?_) rfl (by kernel_rfl) (by kernel_rfl) (by kernel_rfl) (fun _ _ _ h => h) (Or.inl ⟨by rfl, ?_⟩) KS ?_
  rotate_left
  · intro w' hSw; have hy := (HR3.out w' hSw).2; (go_simp; try with_reducible rfl)
  try simp only [Act.put, List.setIfInBounds_toArray, List.set_cons_zero, List.set_cons_succ]
  refine wpAnyH_ready (rs := [5, 9]) (by kernel_rfl) (by simp) ?_
  refine AllReadyH.cons (o := ⟨_, _, _, _, _, _⟩) rfl (fun K hK => ?_) (AllReadyH.cons (o := ⟨_, _, _, _, _, _⟩) rfl (fun K hK => ?_) AllReadyH.nil)
  focus (
    go_simp
    refine (getI_any p s r.client HCL.out _ (HR3.out _ KS).1).mono ?_
    rintro e w4 ⟨rfl, kk⟩
    rw [cellsA_eq, HL.out.2.2.1]
    have K2 := Lib.hid (KS.then kk (by simp))
    clear kk
    go_wp2_with fail
    refine hK.out _ _ K2.out (fun _ => ?_)
    clear hK K
    try simp only [Act.put, List.setIfInBounds_toArray, List.set_cons_zero, List.set_cons_succ]
    refine wpAnyH_take (i := 6) (oi := ⟨_, _, _, _, _, _⟩) (v := ?_) rfl (by kernel_rfl) (by kernel_rfl) (by kernel_rfl) (fun _ _ _ h => h) (Or.inl ⟨by rfl, ?_⟩) K2.out ?_
    rotate_left
    · intro w' hSw; (go_simp; try with_reducible rfl)
    try simp only [Act.put, List.setIfInBounds_toArray, List.set_cons_zero, List.set_cons_succ]
    refine wpAnyH_take (i := 7) (oi := ⟨_, _, _, _, _, _⟩) (v := ?_) rfl (by kernel_rfl) (by kernel_rfl) (by kernel_rfl) (fun _ _ _ h => h) (Or.inl ⟨by rfl, ?_⟩) K2.out ?_
    rotate_left
    · intro w' hSw; (go_simp; try with_reducible rfl)
    try simp only [Act.put, List.setIfInBounds_toArray, List.set_cons_zero, List.set_cons_succ]
    refine wpAnyH_take (i := 8) (oi := ⟨_, _, _, _, _, _⟩) (v := ?_) rfl (by kernel_rfl) (by kernel_rfl) (by kernel_rfl) (fun _ _ _ h => h) (Or.inl ⟨by rfl, ?_⟩) K2.out ?_
    rotate_left
    · intro w' hSw; (go_simp; try with_reducible rfl)
    try simp only [Act.put, List.setIfInBounds_toArray, List.set_cons_zero, List.set_cons_succ]
    refine wpAnyH_ready (rs := [9]) (by kernel_rfl) (by simp) ?_
    refine AllReadyH.cons (o := ⟨_, _, _, _, _, _⟩) rfl (fun K hK => ?_) AllReadyH.nil
    refine step_alloc_to _ _ rfl 40 rfl Z.toArray HZ.out.1 (rfl : w4.alloc (.cells Z.toArray 40) = _) ?_
    refine hK.out _ _ (K2.out.alloc (.cells Z.toArray 40)) (fun _ => ?_)
    clear hK K
    try simp only [Act.put, List.setIfInBounds_toArray, List.set_cons_zero, List.set_cons_succ]
    have RQ := Lib.hid (rowAt.new w4 40 Z.toArray)
    have KQ := Lib.hid (And.intro (K2.out.alloc (.cells Z.toArray 40)) (show w3.heap.size ≤ w4.heap.size from K2.out.size))
    obtain ⟨d, hd⟩ : ∃ d, w4.heap.size = d := ⟨_, rfl⟩
    rw [hd] at RQ KQ ⊢
    generalize w4.alloc (.cells Z.toArray 40) = W at *
    clear hd)
  rotate_left
  focus (
    refine step_alloc_to _ _ rfl 40 rfl Z.toArray HZ.out.1 (rfl : w3.drew.alloc (.cells Z.toArray 40) = _) ?_
    refine hK.out _ _ (KS.alloc (.cells Z.toArray 40)) (fun _ => ?_)
    clear hK K
    try simp only [Act.put, List.setIfInBounds_toArray, List.set_cons_zero, List.set_cons_succ]
    refine wpAnyH_ready (rs := [5]) (by kernel_rfl) (by simp) ?_
    refine AllReadyH.cons (o := ⟨_, _, _, _, _, _⟩) rfl (fun K hK => ?_) AllReadyH.nil
    go_simp
    refine (getI_any p s r.client HCL.out _ (HR3.out _ (KS.alloc (.cells Z.toArray 40))).1).mono ?_
    rintro e w4 ⟨rfl, kk⟩
    rw [cellsA_eq, HL.out.2.2.1]
    have K2 := Lib.hid ((KS.alloc (.cells Z.toArray 40)).then kk (by simp))
    have RQ := Lib.hid (kk.row (rowAt.new w3.drew 40 Z.toArray) (by simp))
    clear kk
    go_wp2_with fail
    refine hK.out _ _ K2.out (fun _ => ?_)
    clear hK K
    try simp only [Act.put, List.setIfInBounds_toArray, List.set_cons_zero, List.set_cons_succ]
    have KQ := Lib.hid (And.intro K2.out (show w3.heap.size ≤ w3.drew.heap.size from Nat.le_refl _))
    refine wpAnyH_take (i := 6) (oi := ⟨_, _, _, _, _, _⟩) (v := ?_) rfl (by kernel_rfl) (by kernel_rfl) (by kernel_rfl) (fun _ _ _ h => h) (Or.inl ⟨by rfl, ?_⟩) K2.out ?_
    rotate_left
    · intro w' hSw; (go_simp; try with_reducible rfl)
    try simp only [Act.put, List.setIfInBounds_toArray, List.set_cons_zero, List.set_cons_succ]
    refine wpAnyH_take (i := 7) (oi := ⟨_, _, _, _, _, _⟩) (v := ?_) rfl (by kernel_rfl) (by kernel_rfl) (by kernel_rfl) (fun _ _ _ h => h) (Or.inl ⟨by rfl, ?_⟩) K2.out ?_
    rotate_left
    · intro w' hSw; (go_simp; try with_reducible rfl)
    try simp only [Act.put, List.setIfInBounds_toArray, List.set_cons_zero, List.set_cons_succ]
    refine wpAnyH_take (i := 8) (oi := ⟨_, _, _, _, _, _⟩) (v := ?_) rfl (by kernel_rfl) (by kernel_rfl) (by kernel_rfl) (fun _ _ _ h => h) (Or.inl ⟨by rfl, ?_⟩) K2.out ?_
    rotate_left
    · intro w' hSw; (go_simp; try with_reducible rfl)
    try simp only [Act.put, List.setIfInBounds_toArray, List.set_cons_zero, List.set_cons_succ]
    obtain ⟨d, hd⟩ : ∃ d, w3.drew.heap.size = d := ⟨_, rfl⟩
    rw [hd] at RQ KQ
    try rw [hd]
    change w3.heap.size = d at hd
    try rw [hd]
    clear hd
    generalize w4 = W at *)
  all_goals (
    refine wpAnyH_ready (rs := [10]) (by kernel_rfl) (by simp) ?_
    refine AllReadyH.cons (o := ⟨_, _, _, _, _, _⟩) rfl (fun K hK => ?_) AllReadyH.nil
    refine step_store_mid rfl 40 (.tmp 7) (.tmp 27) rfl d 0 L.toArray rfl rfl (RQ.out.there (by simp only [List.size_toArray]; rw [HL.out.1, HZ.out.2.1]; omega)) (by rw [List.size_toArray, HL.out.1]; exact info_an) (all_oneCell_toArray HL.out.2.1) ?_
    refine hK.out _ _ (KQ.out.1.setL (vs := L) (o := 0) (.inr KQ.out.2)) (fun _ => ?_)
    clear hK K
    try simp only [Act.put, List.setIfInBounds_toArray, List.set_cons_zero, List.set_cons_succ]
    refine wpAnyH_take (i := 11) (oi := ⟨_, _, _, _, _, _⟩) (v := ?_) rfl (by kernel_rfl) (by kernel_rfl) (by kernel_rfl) (fun _ _ _ h => h) (Or.inl ⟨by rfl, ?_⟩) (KQ.out.1.setL (vs := L) (o := 0) (.inr KQ.out.2)) ?_
    rotate_left
    · intro w' hSw; (go_simp; try with_reducible rfl)
    try simp only [Act.put, List.setIfInBounds_toArray, List.set_cons_zero, List.set_cons_succ]
    refine wpAnyH_done (by kernel_rfl) ?_ _
    have r5 := RQ.out.setL (vs := L) (o := 0)
    rw [putL_all (by simp only [List.size_toArray]; rw [HL.out.1, HZ.out.2.1])] at r5
    have k5 : keepBut [] w3 (W.setCells d 0 L) := (KQ.out.1.setL (vs := L) (o := 0) (.inr KQ.out.2))
    go_upto_region 7 with fail
    try simp only [List.toList_toArray]
    generalize W.setCells d 0 L = W5 at *
    have K5 := Lib.hid k5
    have RD := Lib.hid r5
    have RB1 := Lib.hid (k5.row R1.out (by simp))
    have RB2 := Lib.hid (k5.row R2.out (by simp))
    have HT5 := Lib.hid (HT3.out.over k5)
    have HD := Lib.hid (show b2 < d from by have := HS3.out; have := KQ.out.2; omega)
    have y1 : W5.cell? ⟨b1, 1, none⟩ = some (.int .i64 r.num) := (RB1.out.cell 1).trans HX1.out.2.1
    have yl : W5.cell? ⟨d, 1, none⟩ = some (.int .i64 (ansI s r.client).num) := (RD.out.cell 1).trans HL.out.2.2.2
    have y0 : W5.cell? ⟨b1, 0, none⟩ = some (.int .i64 r.client) := (RB1.out.cell 0).trans HX1.out.1
    clear r5 k5
    have hne := HNE.out
    go_upto_region 8 with fail
    clear y0 y1 yl hne
    go_wp2_with (first
      | (refine wpList_load_mid rfl 40 (.tmp 7) rfl d 0 rfl L _ (RD.out).rangeAll Tryd.underlying40 rfl (by rw [HL.out.1]; exact info_an) ?_)
      | (go_at_call 28; refine ((HL.out.2.2.1 ▸ copied_any s.F (ansI s r.client) (evI s r.client) W5 ⟨HAV.out.1.1, (HAV.out.1.2.keep KC.out (by simp)).keep K5.out (by simp)⟩ (by have := HAV.out.2; omega))).mono ?_; rintro e w6 ⟨v6, G, rfl, n6⟩; have N6 := Lib.hid n6; have R6 := Lib.hid (n6.2.2.2.row RB2.out (by simp)); clear n6; obtain ⟨Y, hY⟩ : ∃ Y, anL (ansI s r.client) v6 = Y := ⟨_, rfl⟩; have HY := Lib.hid (And.intro (show Y.length = 38 by rw [← hY]; exact anL_len HAV.out.1.1) (And.intro (show ∀ v ∈ Y, v.oneCell' = true by rw [← hY]; exact anL_one _ N6.out.1.one) hY)); rw [hY]; clear hY)
      | (refine wpList_store_mid rfl 40 (.tmp 4) (.tmp 35) rfl b2 0 Y.toArray rfl rfl (R6.out.there (by simp only [List.size_toArray]; rw [HY.out.1, HZ.out.2.1]; omega)) (by rw [List.size_toArray, HY.out.1]; exact info_an) (all_oneCell_toArray (HY.out.2.1)) ?_))
    have r7 := R6.out.setL (vs := Y) (o := 0)
    rw [putL_all (by simp only [List.size_toArray]; rw [HY.out.1, HZ.out.2.1])] at r7
    have k7 := (keepBut.refl [b2] w6).setL (vs := Y) (g := b2) (o := 0) (.inl (by simp))
    refine bodyPost_ret (results_row_tmp rfl _ _ b2 40 _ (0, 0) _ rfl r7 Tryd.underlying40 rfl (by rw [List.size_toArray, HY.out.1]; exact info_an)) rfl ?_
    have k5 := (HK.out.then KC.out (by simp)).then K5.out (by simp)
    have k6 := k5.then N6.out.2.2.2 (by simp)
    have kk : keepBut [] w (w6.setCells b2 0 Y) := k6.then k7 (fun x hx => by simp at hx; subst hx; right; have := HRR.out.2.2; have := HB1.out; omega)
    have s5 := k5.size
    have s7 := k7.size
    have hl5 := RB2.out.lt
    have hGk : ∀ y ∈ G, y ∉ [b2] := fun y hy => by have := (N6.out.2.2.1 y hy).1; simp; omega
    refine ⟨⟨v6, G, by rw [← HY.out.2.2]; rfl, N6.out.1.keep k7 hGk, fun y hy => ?_, fun y hy => ⟨by have := (N6.out.2.2.1 y hy).1; omega, by have h1 := (N6.out.2.2.1 y hy).2; omega⟩⟩, ⟨s, HH.out.over kk, rfl, fun y hy => .inl hy⟩, kk.more (by simp)⟩
    obtain ⟨cs, hc⟩ := N6.out.2.1 y hy
    exact ⟨cs, k7.row hc (hGk y hy)⟩)
set_option maxHeartbeats 8000000 in
theorem do_old (p : Nat) (s : TS) (F : List Nat) (r : RQ) (ev : Value) (w : World) (h : isT w p s) (hr : rqV w F r ev) (hsz : sizesAt w) (ht : r.tok = true) (hn : ¬ r.num = (ansI s r.client).num ∧ r.num < (ansI s r.client).num) :
    Calls Tryd.prog 11 #[.pointer (some ⟨p, 0, none⟩), .agg (rqL r ev).toArray] w (doPost p s (s.pure, ⟨r.client, r.num, 3, 0, s.epoch, r.name, []⟩, 0) w) := by
  obtain ⟨X, hX⟩ : ∃ X, rqL r ev = X := ⟨_, rfl⟩
  have hXn : ∀ j v, (nameL r.name)[j]? = some v → X.toArray[4 + j]? = some v := by rw [← hX]; exact rqL_name r ev
  have hX0 : X.toArray[0]? = some (.int .i64 r.client) := by rw [← hX]; rfl
  have hX1 : X.toArray[1]? = some (.int .i64 r.num) := by rw [← hX]; rfl
  have hX2 : X.toArray[2]? = some (.int .i64 r.kind) := by rw [← hX]; rfl
  have hXl : X.length = 37 := by rw [← hX]; exact rqL_len hr.1
  have hXo : ∀ v ∈ X, v.oneCell' = true := by rw [← hX]; exact rqL_one r hr.2.one
  obtain ⟨Z, hZ⟩ : ∃ Z, anL anZero nilV = Z := ⟨_, rfl⟩
  have hz := zv_an
  have hzb := build_an0
  rw [hZ] at hz hzb
  have hZl : Z.length = 38 := by rw [← hZ]; exact anZ_len
  have hZo : ∀ v ∈ Z, v.oneCell' = true := by rw [← hZ]; exact anZ_one
  rw [hX]
  obtain ⟨w1, hw1⟩ : ∃ w1, w.alloc (.cells X.toArray 31) = w1 := ⟨_, rfl⟩
  obtain ⟨w2, hw2⟩ : ∃ w2, w1.alloc (.cells Z.toArray 40) = w2 := ⟨_, rfl⟩
  obtain ⟨b1, hb1⟩ : ∃ b1, w.heap.size = b1 := ⟨_, rfl⟩
  obtain ⟨b2, hb2⟩ : ∃ b2, w1.heap.size = b2 := ⟨_, rfl⟩
  have r0 : rowAt w1 b1 31 X.toArray := hb1 ▸ hw1 ▸ rowAt.new _ _ _
  have r2 : rowAt w2 b2 40 Z.toArray := hb2 ▸ hw2 ▸ rowAt.new _ _ _
  have k1 : keepBut [] w w1 := hw1 ▸ (keepBut.refl [] w).alloc _
  have k2 : keepBut [] w1 w2 := hw2 ▸ (keepBut.refl [] w1).alloc _
  have r1 := k2.row r0 (by simp)
  have k12 := k1.then k2 (by simp)
  have hlt : b1 < b2 := hb2 ▸ r0.lt
  have HW1 := Lib.hid hw1
  have HW2 := Lib.hid hw2
  have HB1 := Lib.hid hb1
  have HB2 := Lib.hid hb2
  have HRR := Lib.hid (And.intro r1 (And.intro r2 hlt))
  have HT := Lib.hid (h.over k12)
  have HK := Lib.hid k12
  have HN := Lib.hid hr.1
  have HV : Hid (rqV w2 F r ev) := Lib.hid ⟨hr.1, hr.2.keep k12 (by simp)⟩
  have HCK := Lib.hid (hX ▸ tcheck_any F r ev w2 ⟨hr.1, hr.2.keep k12 (by simp)⟩ (hsz.keep k12 (by simp)))
  have HX := Lib.hid (And.intro hXl (And.intro hXo hX))
  have HZ := Lib.hid (And.intro hz (And.intro hZl (And.intro hZo (And.intro hzb hZ))))
  have HRG : Hid (∀ W, keepBut [] w2 W → isT W p s ∧ W.cell? ⟨b1, 0, none⟩ = some (.int .i64 r.client)) := Lib.hid (fun W k => ⟨(h.over k12).over k, ((k.row r1 (by simp)).cell 0).trans hX0⟩)
  have HX1 := Lib.hid (And.intro hX0 (And.intro hX1 (And.intro hX2 hXn)))
  have HH := Lib.hid h
  have HR0 := Lib.hid hr
  obtain ⟨hav, hal⟩ := h.ansV r.client
  obtain ⟨L, hL⟩ : ∃ L, anL (ansI s r.client) (evI s r.client) = L := ⟨_, rfl⟩
  have HL := Lib.hid (And.intro (show L.length = 38 by rw [← hL]; exact anL_len hav.1) (And.intro (show ∀ v ∈ L, v.oneCell' = true by rw [← hL]; exact anL_one _ hav.2.one) (And.intro hL (show L.toArray[1]? = some (.int .i64 (ansI s r.client).num) by rw [← hL]; rfl))))
  have HAV : Hid (anV w2 s.F (ansI s r.client) (evI s r.client) ∧ (ansI s r.client).env.length ≤ 1000) := Lib.hid ⟨⟨hav.1, hav.2.keep k12 (by simp)⟩, hal⟩
  have HTK := Lib.hid ht
  have HCL := Lib.hid (tok_client ht)
  have HNE := Lib.hid hn
  clear hav hal hL ht hn
  clear hw1 hw2 r0 r1 r2 k1 k2 k12 h hr hsz hX hXn hX0 hX1 hX2 hXl hXo hz hzb hZ hZl hZo hlt hb1
  go_enter Tryd.func11, Tryd.ntmps11
  go_upto_region 1 with (first
    | (with_reducible refine wpList_box_to _ _ rfl 31 (.tmp 1) rfl _ rfl HW1.out ?_)
    | (with_reducible refine wpList_alloc_to _ _ rfl 40 rfl _ HZ.out.1 HW2.out ?_))
  try rw [HB1.out]
  try rw [HB2.out]
  try clear hb2
  go_upto_region 4 with (first
    | (go_at_call 23; refine (none_no p s _ HT.out).mono ?_; rintro e w' ⟨rfl, rfl⟩)
    | (refine wpList_load_mid rfl 31 (.tmp 3) rfl b1 0 rfl X _ HRR.out.1.rangeAll Tryd.underlying31 rfl (by rw [HX.out.1]; exact info_rq) ?_)
    | (go_at_call 26; refine HCK.out.mono ?_; rintro e w3 ⟨rfl, kk⟩; have KC := Lib.hid kk; clear kk))
  rw [HTK.out]
  have R1 := Lib.hid (KC.out.row HRR.out.1 (by simp))
  have R2 := Lib.hid (KC.out.row HRR.out.2.1 (by simp))
  have HT3 := Lib.hid (HT.out.over KC.out)
  go_upto_region 6 with fail
  have hsz3 : b2 < w3.heap.size := R2.out.lt
  have HS3 := Lib.hid hsz3
  clear hsz3
  have HR3 : Hid (∀ W, keepBut [] w3 W → isT W p s ∧ W.cell? ⟨b1, 0, none⟩ = some (.int .i64 r.client)) := Lib.hid (fun W k => HRG.out W (KC.out.then k (by simp)))
  have KS : keepBut [] w3 w3.drew := (keepBut.refl [] w3).drew
  refine wp_region_held_drew (S := fun W => keepBut [] w3 W) (by kernel_rfl) KS (fun _ => ?_)
  refine wpAnyH_take (i := 0) (oi := ⟨_, _, _, _, _, _⟩) (v := ?_) rfl (by kernel_rfl) (by kernel_rfl) (by kernel_rfl) (fun _ _ _ h => h) (Or.inl ⟨by rfl, ?_⟩) KS ?_
  rotate_left
  · intro w' hSw; (go_simp; try with_reducible rfl)
  try simp only [Act.put, List.setIfInBounds_toArray, List.set_cons_zero, List.set_cons_succ]
  refine wpAnyH_take (i := 1) (oi := ⟨_, _, _, _, _, _⟩) (v := ?_) rfl (by kernel_rfl) (by kernel_rfl) (by kernel_rfl) (fun _ _ _ h => h) (Or.inl ⟨by rfl, ?_⟩) KS ?_
  rotate_left
  · intro w' hSw; (go_simp; try with_reducible rfl)
  try simp only [Act.put, List.setIfInBounds_toArray, List.set_cons_zero, List.set_cons_succ]
  refine wpAnyH_take (i := 2) (oi := ⟨_, _, _, _, _, _⟩) (v := ?_) rfl (by kernel_rfl) (by kernel_rfl) (by kernel_rfl) (fun _ _ _ h => h) (Or.inl ⟨by rfl, ?_⟩) KS ?_
  rotate_left
  · intro w' hSw; (go_simp; try with_reducible rfl)
  try simp only [Act.put, List.setIfInBounds_toArray, List.set_cons_zero, List.set_cons_succ]
  refine wpAnyH_take (i := 3) (oi := ⟨_, _, _, _, _, _⟩) (v := ?_) rfl (by kernel_rfl) (by kernel_rfl) (by kernel_rfl) (fun _ _ _ h => h) (Or.inl ⟨by rfl, ?_⟩) KS ?_
  rotate_left
  · intro w' hSw; (go_simp; try with_reducible rfl)
  try simp only [Act.put, List.setIfInBounds_toArray, List.set_cons_zero, List.set_cons_succ]
  refine wpAnyH_take (i := 4) (oi := ⟨_, _, _, _, _, _⟩) (v := ?_) rfl (by kernel_rfl) (by kernel_rfl) (by kernel_rfl) (fun _ _ _ h => h) (Or.inl ⟨by rfl, ?_⟩) KS ?_
  rotate_left
  · intro w' hSw; have hy := (HR3.out w' hSw).2; (go_simp; try with_reducible rfl)
  try simp only [Act.put, List.setIfInBounds_toArray, List.set_cons_zero, List.set_cons_succ]
  refine wpAnyH_ready (rs := [5, 9]) (by kernel_rfl) (by simp) ?_
  refine AllReadyH.cons (o := ⟨_, _, _, _, _, _⟩) rfl (fun K hK => ?_) (AllReadyH.cons (o := ⟨_, _, _, _, _, _⟩) rfl (fun K hK => ?_) AllReadyH.nil)
  focus (
    go_simp
    refine (getI_any p s r.client HCL.out _ (HR3.out _ KS).1).mono ?_
    rintro e w4 ⟨rfl, kk⟩
    rw [cellsA_eq, HL.out.2.2.1]
    have K2 := Lib.hid (KS.then kk (by simp))
    clear kk
    go_wp2_with fail
    refine hK.out _ _ K2.out (fun _ => ?_)
    clear hK K
    try simp only [Act.put, List.setIfInBounds_toArray, List.set_cons_zero, List.set_cons_succ]
    refine wpAnyH_take (i := 6) (oi := ⟨_, _, _, _, _, _⟩) (v := ?_) rfl (by kernel_rfl) (by kernel_rfl) (by kernel_rfl) (fun _ _ _ h => h) (Or.inl ⟨by rfl, ?_⟩) K2.out ?_
    rotate_left
    · intro w' hSw; (go_simp; try with_reducible rfl)
    try simp only [Act.put, List.setIfInBounds_toArray, List.set_cons_zero, List.set_cons_succ]
    refine wpAnyH_take (i := 7) (oi := ⟨_, _, _, _, _, _⟩) (v := ?_) rfl (by kernel_rfl) (by kernel_rfl) (by kernel_rfl) (fun _ _ _ h => h) (Or.inl ⟨by rfl, ?_⟩) K2.out ?_
    rotate_left
    · intro w' hSw; (go_simp; try with_reducible rfl)
    try simp only [Act.put, List.setIfInBounds_toArray, List.set_cons_zero, List.set_cons_succ]
    refine wpAnyH_take (i := 8) (oi := ⟨_, _, _, _, _, _⟩) (v := ?_) rfl (by kernel_rfl) (by kernel_rfl) (by kernel_rfl) (fun _ _ _ h => h) (Or.inl ⟨by rfl, ?_⟩) K2.out ?_
    rotate_left
    · intro w' hSw; (go_simp; try with_reducible rfl)
    try simp only [Act.put, List.setIfInBounds_toArray, List.set_cons_zero, List.set_cons_succ]
    refine wpAnyH_ready (rs := [9]) (by kernel_rfl) (by simp) ?_
    refine AllReadyH.cons (o := ⟨_, _, _, _, _, _⟩) rfl (fun K hK => ?_) AllReadyH.nil
    refine step_alloc_to _ _ rfl 40 rfl Z.toArray HZ.out.1 (rfl : w4.alloc (.cells Z.toArray 40) = _) ?_
    refine hK.out _ _ (K2.out.alloc (.cells Z.toArray 40)) (fun _ => ?_)
    clear hK K
    try simp only [Act.put, List.setIfInBounds_toArray, List.set_cons_zero, List.set_cons_succ]
    have RQ := Lib.hid (rowAt.new w4 40 Z.toArray)
    have KQ := Lib.hid (And.intro (K2.out.alloc (.cells Z.toArray 40)) (show w3.heap.size ≤ w4.heap.size from K2.out.size))
    obtain ⟨d, hd⟩ : ∃ d, w4.heap.size = d := ⟨_, rfl⟩
    rw [hd] at RQ KQ ⊢
    generalize w4.alloc (.cells Z.toArray 40) = W at *
    clear hd)
  rotate_left
  focus (
    refine step_alloc_to _ _ rfl 40 rfl Z.toArray HZ.out.1 (rfl : w3.drew.alloc (.cells Z.toArray 40) = _) ?_
    refine hK.out _ _ (KS.alloc (.cells Z.toArray 40)) (fun _ => ?_)
    clear hK K
    try simp only [Act.put, List.setIfInBounds_toArray, List.set_cons_zero, List.set_cons_succ]
    refine wpAnyH_ready (rs := [5]) (by kernel_rfl) (by simp) ?_
    refine AllReadyH.cons (o := ⟨_, _, _, _, _, _⟩) rfl (fun K hK => ?_) AllReadyH.nil
    go_simp
    refine (getI_any p s r.client HCL.out _ (HR3.out _ (KS.alloc (.cells Z.toArray 40))).1).mono ?_
    rintro e w4 ⟨rfl, kk⟩
    rw [cellsA_eq, HL.out.2.2.1]
    have K2 := Lib.hid ((KS.alloc (.cells Z.toArray 40)).then kk (by simp))
    have RQ := Lib.hid (kk.row (rowAt.new w3.drew 40 Z.toArray) (by simp))
    clear kk
    go_wp2_with fail
    refine hK.out _ _ K2.out (fun _ => ?_)
    clear hK K
    try simp only [Act.put, List.setIfInBounds_toArray, List.set_cons_zero, List.set_cons_succ]
    have KQ := Lib.hid (And.intro K2.out (show w3.heap.size ≤ w3.drew.heap.size from Nat.le_refl _))
    refine wpAnyH_take (i := 6) (oi := ⟨_, _, _, _, _, _⟩) (v := ?_) rfl (by kernel_rfl) (by kernel_rfl) (by kernel_rfl) (fun _ _ _ h => h) (Or.inl ⟨by rfl, ?_⟩) K2.out ?_
    rotate_left
    · intro w' hSw; (go_simp; try with_reducible rfl)
    try simp only [Act.put, List.setIfInBounds_toArray, List.set_cons_zero, List.set_cons_succ]
    refine wpAnyH_take (i := 7) (oi := ⟨_, _, _, _, _, _⟩) (v := ?_) rfl (by kernel_rfl) (by kernel_rfl) (by kernel_rfl) (fun _ _ _ h => h) (Or.inl ⟨by rfl, ?_⟩) K2.out ?_
    rotate_left
    · intro w' hSw; (go_simp; try with_reducible rfl)
    try simp only [Act.put, List.setIfInBounds_toArray, List.set_cons_zero, List.set_cons_succ]
    refine wpAnyH_take (i := 8) (oi := ⟨_, _, _, _, _, _⟩) (v := ?_) rfl (by kernel_rfl) (by kernel_rfl) (by kernel_rfl) (fun _ _ _ h => h) (Or.inl ⟨by rfl, ?_⟩) K2.out ?_
    rotate_left
    · intro w' hSw; (go_simp; try with_reducible rfl)
    try simp only [Act.put, List.setIfInBounds_toArray, List.set_cons_zero, List.set_cons_succ]
    obtain ⟨d, hd⟩ : ∃ d, w3.drew.heap.size = d := ⟨_, rfl⟩
    rw [hd] at RQ KQ
    try rw [hd]
    change w3.heap.size = d at hd
    try rw [hd]
    clear hd
    generalize w4 = W at *)
  all_goals (
    refine wpAnyH_ready (rs := [10]) (by kernel_rfl) (by simp) ?_
    refine AllReadyH.cons (o := ⟨_, _, _, _, _, _⟩) rfl (fun K hK => ?_) AllReadyH.nil
    refine step_store_mid rfl 40 (.tmp 7) (.tmp 27) rfl d 0 L.toArray rfl rfl (RQ.out.there (by simp only [List.size_toArray]; rw [HL.out.1, HZ.out.2.1]; omega)) (by rw [List.size_toArray, HL.out.1]; exact info_an) (all_oneCell_toArray HL.out.2.1) ?_
    refine hK.out _ _ (KQ.out.1.setL (vs := L) (o := 0) (.inr KQ.out.2)) (fun _ => ?_)
    clear hK K
    try simp only [Act.put, List.setIfInBounds_toArray, List.set_cons_zero, List.set_cons_succ]
    refine wpAnyH_take (i := 11) (oi := ⟨_, _, _, _, _, _⟩) (v := ?_) rfl (by kernel_rfl) (by kernel_rfl) (by kernel_rfl) (fun _ _ _ h => h) (Or.inl ⟨by rfl, ?_⟩) (KQ.out.1.setL (vs := L) (o := 0) (.inr KQ.out.2)) ?_
    rotate_left
    · intro w' hSw; (go_simp; try with_reducible rfl)
    try simp only [Act.put, List.setIfInBounds_toArray, List.set_cons_zero, List.set_cons_succ]
    refine wpAnyH_done (by kernel_rfl) ?_ _
    have r5 := RQ.out.setL (vs := L) (o := 0)
    rw [putL_all (by simp only [List.size_toArray]; rw [HL.out.1, HZ.out.2.1])] at r5
    have k5 : keepBut [] w3 (W.setCells d 0 L) := (KQ.out.1.setL (vs := L) (o := 0) (.inr KQ.out.2))
    go_upto_region 7 with fail
    try simp only [List.toList_toArray]
    generalize W.setCells d 0 L = W5 at *
    have K5 := Lib.hid k5
    have RD := Lib.hid r5
    have RB1 := Lib.hid (k5.row R1.out (by simp))
    have RB2 := Lib.hid (k5.row R2.out (by simp))
    have HT5 := Lib.hid (HT3.out.over k5)
    have HD := Lib.hid (show b2 < d from by have := HS3.out; have := KQ.out.2; omega)
    have y1 : W5.cell? ⟨b1, 1, none⟩ = some (.int .i64 r.num) := (RB1.out.cell 1).trans HX1.out.2.1
    have yl : W5.cell? ⟨d, 1, none⟩ = some (.int .i64 (ansI s r.client).num) := (RD.out.cell 1).trans HL.out.2.2.2
    have y0 : W5.cell? ⟨b1, 0, none⟩ = some (.int .i64 r.client) := (RB1.out.cell 0).trans HX1.out.1
    clear r5 k5
    have hne := HNE.out.1
    obtain ⟨B, hB⟩ : ∃ B, anL (⟨r.client, r.num, 0, 0, 0, r.name, []⟩ : AN) nilV = B := ⟨_, rfl⟩
    have HBB := Lib.hid (And.intro (show B.length = 38 by rw [← hB]; exact anL_len HN.out) (And.intro (show ∀ v ∈ B, v.oneCell' = true by rw [← hB]; exact anL_one _ rfl) (And.intro hB (hB ▸ build_an015 r.client r.num r.name HN.out))))
    clear hB
    have HNR : Hid (W5.rangeAt b1 4 (nameL r.name)) := Lib.hid (RB1.out.range HX1.out.2.2.2)
    have HIN : Hid ((Tryd.prog.info? 28).map (·.size) = some (nameL r.name).length) := Lib.hid (by rw [nameL_len, HN.out]; exact infoName)
    generalize nameL r.name = NL at HNR HIN HBB
    go_upto_region 10 with (first
      | (refine wpList_load_mid rfl 28 (.tmp 40) rfl b1 4 rfl NL _ HNR.out Tryd.underlying28 rfl HIN.out ?_)
      | (refine wpList_build_pt _ rfl 40 _ rfl B.toArray (by simp only [List.map_toArray, List.map_cons, List.map_nil]; go_simp; exact HBB.out.2.2.2) ?_)
      | (refine wpList_store_mid rfl 40 (.tmp 4) (.tmp 42) rfl b2 0 B.toArray rfl rfl (RB2.out.there (by simp only [List.size_toArray]; rw [HBB.out.1, HZ.out.2.1]; omega)) (by rw [List.size_toArray, HBB.out.1]; exact info_an) (all_oneCell_toArray (HBB.out.2.1)) ?_))
    have r6 := RB2.out.setL (vs := B) (o := 0)
    rw [putL_all (by simp only [List.size_toArray]; rw [HBB.out.1, HZ.out.2.1])] at r6
    have k6 := (keepBut.refl [b2] W5).setL (vs := B) (g := b2) (o := 0) (.inl (by simp))
    try simp only [List.toList_toArray]
    generalize W5.setCells b2 0 B = W6 at *
    have hb1 : b1 ∉ [b2] := by have := HRR.out.2.2; simp; omega
    have hdb : d ∉ [b2] := by have := HD.out; simp; omega
    have hpb : p ∉ [b2] := by have := HH.out.row.lt; have := HRR.out.2.2; have := HB1.out; simp; omega
    have K6 := Lib.hid k6
    have RA := Lib.hid r6
    have RX := Lib.hid (k6.row RB1.out hb1)
    have RP := Lib.hid (k6.row HT5.out.row hpb)
    have y1 : W6.cell? ⟨b1, 1, none⟩ = some (.int .i64 r.num) := (RX.out.cell 1).trans HX1.out.2.1
    have yl : W6.cell? ⟨d, 1, none⟩ = some (.int .i64 (ansI s r.client).num) := ((k6.row RD.out hdb).cell 1).trans HL.out.2.2.2
    clear y0 r6 k6 hb1 hdb hpb hne
    have hlt := HNE.out.2
    go_upto_region 11 with fail
    clear y1 yl hlt
    have yp : W6.cell? ⟨p, 0, none⟩ = some (.int .i64 s.epoch) := RP.out.cell 0
    have y2 : W6.cell? ⟨b2, 2, none⟩ = some (.int .i64 0) := (RA.out.cell 2).trans (by rw [← HBB.out.2.2.1]; rfl)
    have y4 : W6.cell? ⟨b2, 4, none⟩ = some (.int .i64 0) := (RA.out.cell 4).trans (by rw [← HBB.out.2.2.1]; rfl)
    have f2 := RA.out.free 2
    have f4 := RA.out.free 4
    go_upto_region 12 with fail
    have r8 := (RA.out.set 2 (.int .i64 3)).set 4 (.int .i64 s.epoch)
    have k8 := (kset W6 b2 2 (.int .i64 3)).then (kset _ b2 4 (.int .i64 s.epoch)) (fun x hx => .inl hx)
    generalize (W6.setCell ⟨b2, 2, none⟩ (.int .i64 3)).setCell ⟨b2, 4, none⟩ (.int .i64 s.epoch) = W8 at *
    obtain ⟨C, hC⟩ : ∃ C, anL (⟨r.client, r.num, 3, 0, s.epoch, r.name, []⟩ : AN) nilV = C := ⟨_, rfl⟩
    have hBC : (B.toArray.setIfInBounds 2 (.int .i64 3)).setIfInBounds 4 (.int .i64 s.epoch) = C.toArray := by rw [← hC, ← HBB.out.2.2.1]; rfl
    rw [hBC] at r8
    have HC := Lib.hid (And.intro (show C.length = 38 by rw [← hC]; exact anL_len HN.out) (And.intro (show ∀ v ∈ C, v.oneCell' = true by rw [← hC]; exact anL_one _ rfl) hC))
    have R8 := Lib.hid r8
    have K8 := Lib.hid k8
    clear r8 k8 hBC hC yp y2 y4 f2 f4
    go_wp2_with (first
      | (refine wpList_load_mid rfl 40 (.tmp 4) rfl b2 0 rfl C _ (R8.out).rangeAll Tryd.underlying40 rfl (by rw [HC.out.1]; exact info_an) ?_)
      | (refine wpList_store_mid rfl 40 (.tmp 4) (.tmp 54) rfl b2 0 C.toArray rfl rfl (R8.out.there (by simp only [List.size_toArray]; omega)) (by rw [List.size_toArray, HC.out.1]; exact info_an) (all_oneCell_toArray (HC.out.2.1)) ?_))
    have r9 := R8.out.setL (vs := C) (o := 0)
    rw [putL_all (by simp only [List.size_toArray])] at r9
    have k9 := (keepBut.refl [b2] W8).setL (vs := C) (g := b2) (o := 0) (.inl (by simp))
    refine bodyPost_ret (results_row_tmp rfl _ _ b2 40 _ (0, 0) _ rfl r9 Tryd.underlying40 rfl (by rw [List.size_toArray, HC.out.1]; exact info_an)) rfl ?_
    have k5 := (HK.out.then KC.out (by simp)).then K5.out (by simp)
    have kk : keepBut [] w (W8.setCells b2 0 C) := k5.then ((K6.out.then K8.out (fun x hx => .inl hx)).then k9 (fun x hx => .inl hx)) (fun x hx => by simp at hx; subst hx; right; have := HRR.out.2.2; have := HB1.out; omega)
    exact ⟨⟨nilV, [], by rw [← HC.out.2.2]; rfl, bytesV.nil _ _, fun y hy => by simp at hy, fun y hy => by simp at hy⟩, ⟨s, HH.out.over kk, rfl, fun y hy => .inl hy⟩, kk.more (by simp)⟩)
end Go.Proofs.YtmlmhnhilemjhaaDoor
