/-
  TABLE, 32: Do, an act done (kind 2).
-/
import Derived.Test.YtmlmhnhilemjhaaDoorTB30
namespace Go.Proofs.YtmlmhnhilemjhaaDoor
open Go.RowKit
set_option linter.unusedVariables false
set_option maxRecDepth 100000
set_option linter.unusedSimpArgs false

set_option maxHeartbeats 8000000 in
theorem do_act2 (p : Nat) (s : TS) (F : List Nat) (r : RQ) (ev : Value) (w : World) (h : isT w p s) (hr : rqV w F r ev) (hsz : sizesAt w) (ht : r.tok = true) (hn : ¬ r.num = (ansI s r.client).num ∧ ¬ r.num < (ansI s r.client).num) (hk : r.kind = 2) (hep : 0 ≤ s.epoch ∧ s.epoch ≤ 255) (hb : IntKind.i64.wrap (verN s r.name + 1) = verN s r.name + 1) (hf : s.keys.length < 100) :
    Calls Tryd.prog 11 #[.pointer (some ⟨p, 0, none⟩), .agg (rqL r ev).toArray] w (doPost p s (s.pure.done r) w) := by
  obtain ⟨X, hX⟩ : ∃ X, rqL r ev = X := ⟨_, rfl⟩
  have hXn : ∀ j v, (nameL r.name)[j]? = some v → X.toArray[4 + j]? = some v := by rw [← hX]; exact rqL_name r ev
  have hX0 : X.toArray[0]? = some (.int .i64 r.client) := by rw [← hX]; rfl
  have hX1 : X.toArray[1]? = some (.int .i64 r.num) := by rw [← hX]; rfl
  have hX2 : X.toArray[2]? = some (.int .i64 r.kind) := by rw [← hX]; rfl
  have hXl : X.length = 37 := by rw [← hX]; exact rqL_len hr.1
  have hXo : ∀ v ∈ X, v.oneCell' = true := by rw [← hX]; exact rqL_one r hr.2.one
  obtain ⟨Z, hZ⟩ : ∃ Z, anL anZero nilV = Z := ⟨_, rfl⟩
  have hz := zv_an
  have hzb := build_an0
  rw [hZ] at hz hzb
  have hZl : Z.length = 38 := by rw [← hZ]; exact anZ_len
  have hZo : ∀ v ∈ Z, v.oneCell' = true := by rw [← hZ]; exact anZ_one
  rw [hX]
  obtain ⟨w1, hw1⟩ : ∃ w1, w.alloc (.cells X.toArray 31) = w1 := ⟨_, rfl⟩
  obtain ⟨w2, hw2⟩ : ∃ w2, w1.alloc (.cells Z.toArray 40) = w2 := ⟨_, rfl⟩
  obtain ⟨b1, hb1⟩ : ∃ b1, w.heap.size = b1 := ⟨_, rfl⟩
  obtain ⟨b2, hb2⟩ : ∃ b2, w1.heap.size = b2 := ⟨_, rfl⟩
  have r0 : rowAt w1 b1 31 X.toArray := hb1 ▸ hw1 ▸ rowAt.new _ _ _
  have r2 : rowAt w2 b2 40 Z.toArray := hb2 ▸ hw2 ▸ rowAt.new _ _ _
  have k1 : keepBut [] w w1 := hw1 ▸ (keepBut.refl [] w).alloc _
  have k2 : keepBut [] w1 w2 := hw2 ▸ (keepBut.refl [] w1).alloc _
  have r1 := k2.row r0 (by simp)
  have k12 := k1.then k2 (by simp)
  have hlt : b1 < b2 := hb2 ▸ r0.lt
  have HW1 := Lib.hid hw1
  have HW2 := Lib.hid hw2
  have HB1 := Lib.hid hb1
  have HB2 := Lib.hid hb2
  have HRR := Lib.hid (And.intro r1 (And.intro r2 hlt))
  have HT := Lib.hid (h.over k12)
  have HK := Lib.hid k12
  have HN := Lib.hid hr.1
  have HV : Hid (rqV w2 F r ev) := Lib.hid ⟨hr.1, hr.2.keep k12 (by simp)⟩
  have HCK := Lib.hid (hX ▸ tcheck_any F r ev w2 ⟨hr.1, hr.2.keep k12 (by simp)⟩ (hsz.keep k12 (by simp)))
  have HX := Lib.hid (And.intro hXl (And.intro hXo hX))
  have HZ := Lib.hid (And.intro hz (And.intro hZl (And.intro hZo (And.intro hzb hZ))))
  have HRG : Hid (∀ W, keepBut [] w2 W → isT W p s ∧ W.cell? ⟨b1, 0, none⟩ = some (.int .i64 r.client)) := Lib.hid (fun W k => ⟨(h.over k12).over k, ((k.row r1 (by simp)).cell 0).trans hX0⟩)
  have HX1 := Lib.hid (And.intro hX0 (And.intro hX1 (And.intro hX2 hXn)))
  have HH := Lib.hid h
  have HR0 := Lib.hid hr
  obtain ⟨hav, hal⟩ := h.ansV r.client
  obtain ⟨L, hL⟩ : ∃ L, anL (ansI s r.client) (evI s r.client) = L := ⟨_, rfl⟩
  have HL := Lib.hid (And.intro (show L.length = 38 by rw [← hL]; exact anL_len hav.1) (And.intro (show ∀ v ∈ L, v.oneCell' = true by rw [← hL]; exact anL_one _ hav.2.one) (And.intro hL (show L.toArray[1]? = some (.int .i64 (ansI s r.client).num) by rw [← hL]; rfl))))
  have HAV : Hid (anV w2 s.F (ansI s r.client) (evI s r.client) ∧ (ansI s r.client).env.length ≤ 1000) := Lib.hid ⟨⟨hav.1, hav.2.keep k12 (by simp)⟩, hal⟩
  have HTK := Lib.hid ht
  have HCL := Lib.hid (tok_client ht)
  have HNE := Lib.hid hn
  clear hav hal hL ht hn
  have HKD := Lib.hid hk
  have HFI := Lib.hid (And.intro hep (And.intro hb hf))
  obtain ⟨F', hF', hlo⟩ := (hr.2.keep k12 (by simp)).low
  have HLO : Hid (bytesV w2 F' ev r.env ∧ ∀ y ∈ F', y < w2.heap.size) := Lib.hid ⟨hF', hlo⟩
  obtain ⟨F0, hF0, hlo0⟩ := hr.2.low
  have HLO0 : Hid (bytesV w F0 ev r.env ∧ ∀ y ∈ F0, y < w.heap.size) := Lib.hid ⟨hF0, hlo0⟩
  have hs1 : w.heap.size < w1.heap.size := by rw [hb2]; omega
  have HQA := Lib.hid (And.intro (show b2 ∉ homes s.av from fun hm => by have := h.aown.lt _ hm; omega) (show ∀ y ∈ own p s, y < w.heap.size from fun y hy => by
    unfold own at hy
    rcases List.mem_cons.1 hy with rfl | hy
    · exact h.row.lt
    · rcases List.mem_append.1 hy with hy | hy
      · rcases List.mem_append.1 hy with hy | hy
        · exact h.kown.lt _ hy
        · exact h.vown.lt _ hy
      · rcases List.mem_append.1 hy with hy | hy
        · exact h.iown.lt _ hy
        · exact h.aown.lt _ hy))
  clear hk hep hb hf hF' hlo hF0 hlo0 hs1
  clear hw1 hw2 r0 r1 r2 k1 k2 k12 h hr hsz hX hXn hX0 hX1 hX2 hXl hXo hz hzb hZ hZl hZo hlt hb1
  go_enter Tryd.func11, Tryd.ntmps11
  go_upto_region 1 with (first
    | (with_reducible refine wpList_box_to _ _ rfl 31 (.tmp 1) rfl _ rfl HW1.out ?_)
    | (with_reducible refine wpList_alloc_to _ _ rfl 40 rfl _ HZ.out.1 HW2.out ?_))
  try rw [HB1.out]
  try rw [HB2.out]
  try clear hb2
  go_upto_region 4 with (first
    | (go_at_call 23; refine (none_no p s _ HT.out).mono ?_; rintro e w' ⟨rfl, rfl⟩)
    | (refine wpList_load_mid rfl 31 (.tmp 3) rfl b1 0 rfl X _ HRR.out.1.rangeAll Tryd.underlying31 rfl (by rw [HX.out.1]; exact info_rq) ?_)
    | (go_at_call 26; refine HCK.out.mono ?_; rintro e w3 ⟨rfl, kk⟩; have KC := Lib.hid kk; clear kk))
  rw [HTK.out]
  have R1 := Lib.hid (KC.out.row HRR.out.1 (by simp))
  have R2 := Lib.hid (KC.out.row HRR.out.2.1 (by simp))
  have HT3 := Lib.hid (HT.out.over KC.out)
  go_upto_region 6 with fail
  have hsz3 : b2 < w3.heap.size := R2.out.lt
  have HS3 := Lib.hid hsz3
  clear hsz3
  have HR3 : Hid (∀ W, keepBut [] w3 W → isT W p s ∧ W.cell? ⟨b1, 0, none⟩ = some (.int .i64 r.client)) := Lib.hid (fun W k => HRG.out W (KC.out.then k (by simp)))
  have KS : keepBut [] w3 w3.drew := (keepBut.refl [] w3).drew
  refine wp_region_held_drew (S := fun W => keepBut [] w3 W) (by kernel_rfl) KS (fun _ => ?_)
  refine wpAnyH_take (i := 0) (oi := ⟨_, _, _, _, _, _⟩) (v := ?_) rfl (by kernel_rfl) (by kernel_rfl) (by kernel_rfl) (fun _ _ _ h => h) (Or.inl ⟨by rfl, ?_⟩) KS ?_
  rotate_left
  · intro w' hSw; (go_simp; try with_reducible rfl)
  try simp only [Act.put, List.setIfInBounds_toArray, List.set_cons_zero, List.set_cons_succ]
  refine wpAnyH_take (i := 1) (oi := ⟨_, _, _, _, _, _⟩) (v := ?_) rfl (by kernel_rfl) (by kernel_rfl) (by kernel_rfl) (fun _ _ _ h => h) (Or.inl ⟨by rfl, ?_⟩) KS ?_
  rotate_left
  · intro w' hSw; (go_simp; try with_reducible rfl)
  try simp only [Act.put, List.setIfInBounds_toArray, List.set_cons_zero, List.set_cons_succ]
  refine wpAnyH_take (i := 2) (oi := ⟨_, _, _, _, _, _⟩) (v := ?_) rfl (by kernel_rfl) (by kernel_rfl) (by kernel_rfl) (fun _ _ _ h => h) (Or.inl ⟨by rfl, ?_⟩) KS ?_
  rotate_left
  · intro w' hSw; (go_simp; try with_reducible rfl)
  try simp only [Act.put, List.setIfInBounds_toArray, List.set_cons_zero, List.set_cons_succ]
  refine wpAnyH_take (i := 3) (oi := ⟨_, _, _, _, _, _⟩) (v := ?_) rfl (by kernel_rfl) (by kernel_rfl) (by kernel_rfl) (fun _ _ _ h => h) (Or.inl ⟨by rfl, ?_⟩) KS ?_
  rotate_left
  · intro w' hSw; (go_simp; try with_reducible rfl)
  try simp only [Act.put, List.setIfInBounds_toArray, List.set_cons_zero, List.set_cons_succ]
  refine wpAnyH_take (i := 4) (oi := ⟨_, _, _, _, _, _⟩) (v := ?_) rfl (by kernel_rfl) (by kernel_rfl) (by kernel_rfl) (fun _ _ _ h => h) (Or.inl ⟨by rfl, ?_⟩) KS ?_
  rotate_left
  · intro w' hSw; have hy := (HR3.out w' hSw).2; (go_simp; try with_reducible rfl)
  try simp only [Act.put, List.setIfInBounds_toArray, List.set_cons_zero, List.set_cons_succ]
  refine wpAnyH_ready (rs := [5, 9]) (by kernel_rfl) (by simp) ?_
  refine AllReadyH.cons (o := ⟨_, _, _, _, _, _⟩) rfl (fun K hK => ?_) (AllReadyH.cons (o := ⟨_, _, _, _, _, _⟩) rfl (fun K hK => ?_) AllReadyH.nil)
  focus (
    go_simp
    refine (getI_any p s r.client HCL.out _ (HR3.out _ KS).1).mono ?_
    rintro e w4 ⟨rfl, kk⟩
    rw [cellsA_eq, HL.out.2.2.1]
    have K2 := Lib.hid (KS.then kk (by simp))
    clear kk
    go_wp2_with fail
    refine hK.out _ _ K2.out (fun _ => ?_)
    clear hK K
    try simp only [Act.put, List.setIfInBounds_toArray, List.set_cons_zero, List.set_cons_succ]
    refine wpAnyH_take (i := 6) (oi := ⟨_, _, _, _, _, _⟩) (v := ?_) rfl (by kernel_rfl) (by kernel_rfl) (by kernel_rfl) (fun _ _ _ h => h) (Or.inl ⟨by rfl, ?_⟩) K2.out ?_
    rotate_left
    · intro w' hSw; (go_simp; try with_reducible rfl)
    try simp only [Act.put, List.setIfInBounds_toArray, List.set_cons_zero, List.set_cons_succ]
    refine wpAnyH_take (i := 7) (oi := ⟨_, _, _, _, _, _⟩) (v := ?_) rfl (by kernel_rfl) (by kernel_rfl) (by kernel_rfl) (fun _ _ _ h => h) (Or.inl ⟨by rfl, ?_⟩) K2.out ?_
    rotate_left
    · intro w' hSw; (go_simp; try with_reducible rfl)
    try simp only [Act.put, List.setIfInBounds_toArray, List.set_cons_zero, List.set_cons_succ]
    refine wpAnyH_take (i := 8) (oi := ⟨_, _, _, _, _, _⟩) (v := ?_) rfl (by kernel_rfl) (by kernel_rfl) (by kernel_rfl) (fun _ _ _ h => h) (Or.inl ⟨by rfl, ?_⟩) K2.out ?_
    rotate_left
    · intro w' hSw; (go_simp; try with_reducible rfl)
    try simp only [Act.put, List.setIfInBounds_toArray, List.set_cons_zero, List.set_cons_succ]
    refine wpAnyH_ready (rs := [9]) (by kernel_rfl) (by simp) ?_
    refine AllReadyH.cons (o := ⟨_, _, _, _, _, _⟩) rfl (fun K hK => ?_) AllReadyH.nil
    refine step_alloc_to _ _ rfl 40 rfl Z.toArray HZ.out.1 (rfl : w4.alloc (.cells Z.toArray 40) = _) ?_
    refine hK.out _ _ (K2.out.alloc (.cells Z.toArray 40)) (fun _ => ?_)
    clear hK K
    try simp only [Act.put, List.setIfInBounds_toArray, List.set_cons_zero, List.set_cons_succ]
    have RQ := Lib.hid (rowAt.new w4 40 Z.toArray)
    have KQ := Lib.hid (And.intro (K2.out.alloc (.cells Z.toArray 40)) (show w3.heap.size ≤ w4.heap.size from K2.out.size))
    obtain ⟨d, hd⟩ : ∃ d, w4.heap.size = d := ⟨_, rfl⟩
    rw [hd] at RQ KQ ⊢
    generalize w4.alloc (.cells Z.toArray 40) = W at *
    clear hd)
  rotate_left
  focus (
    refine step_alloc_to _ _ rfl 40 rfl Z.toArray HZ.out.1 (rfl : w3.drew.alloc (.cells Z.toArray 40) = _) ?_
    refine hK.out _ _ (KS.alloc (.cells Z.toArray 40)) (fun _ => ?_)
    clear hK K
    try simp only [Act.put, List.setIfInBounds_toArray, List.set_cons_zero, List.set_cons_succ]
    refine wpAnyH_ready (rs := [5]) (by kernel_rfl) (by simp) ?_
    refine AllReadyH.cons (o := ⟨_, _, _, _, _, _⟩) rfl (fun K hK => ?_) AllReadyH.nil
    go_simp
    refine (getI_any p s r.client HCL.out _ (HR3.out _ (KS.alloc (.cells Z.toArray 40))).1).mono ?_
    rintro e w4 ⟨rfl, kk⟩
    rw [cellsA_eq, HL.out.2.2.1]
    have K2 := Lib.hid ((KS.alloc (.cells Z.toArray 40)).then kk (by simp))
    have RQ := Lib.hid (kk.row (rowAt.new w3.drew 40 Z.toArray) (by simp))
    clear kk
    go_wp2_with fail
    refine hK.out _ _ K2.out (fun _ => ?_)
    clear hK K
    try simp only [Act.put, List.setIfInBounds_toArray, List.set_cons_zero, List.set_cons_succ]
    have KQ := Lib.hid (And.intro K2.out (show w3.heap.size ≤ w3.drew.heap.size from Nat.le_refl _))
    refine wpAnyH_take (i := 6) (oi := ⟨_, _, _, _, _, _⟩) (v := ?_) rfl (by kernel_rfl) (by kernel_rfl) (by kernel_rfl) (fun _ _ _ h => h) (Or.inl ⟨by rfl, ?_⟩) K2.out ?_
    rotate_left
    · intro w' hSw; (go_simp; try with_reducible rfl)
    try simp only [Act.put, List.setIfInBounds_toArray, List.set_cons_zero, List.set_cons_succ]
    refine wpAnyH_take (i := 7) (oi := ⟨_, _, _, _, _, _⟩) (v := ?_) rfl (by kernel_rfl) (by kernel_rfl) (by kernel_rfl) (fun _ _ _ h => h) (Or.inl ⟨by rfl, ?_⟩) K2.out ?_
    rotate_left
    · intro w' hSw; (go_simp; try with_reducible rfl)
    try simp only [Act.put, List.setIfInBounds_toArray, List.set_cons_zero, List.set_cons_succ]
    refine wpAnyH_take (i := 8) (oi := ⟨_, _, _, _, _, _⟩) (v := ?_) rfl (by kernel_rfl) (by kernel_rfl) (by kernel_rfl) (fun _ _ _ h => h) (Or.inl ⟨by rfl, ?_⟩) K2.out ?_
    rotate_left
    · intro w' hSw; (go_simp; try with_reducible rfl)
    try simp only [Act.put, List.setIfInBounds_toArray, List.set_cons_zero, List.set_cons_succ]
    obtain ⟨d, hd⟩ : ∃ d, w3.drew.heap.size = d := ⟨_, rfl⟩
    rw [hd] at RQ KQ
    try rw [hd]
    change w3.heap.size = d at hd
    try rw [hd]
    clear hd
    generalize w4 = W at *)
  all_goals (
    refine wpAnyH_ready (rs := [10]) (by kernel_rfl) (by simp) ?_
    refine AllReadyH.cons (o := ⟨_, _, _, _, _, _⟩) rfl (fun K hK => ?_) AllReadyH.nil
    refine step_store_mid rfl 40 (.tmp 7) (.tmp 27) rfl d 0 L.toArray rfl rfl (RQ.out.there (by simp only [List.size_toArray]; rw [HL.out.1, HZ.out.2.1]; omega)) (by rw [List.size_toArray, HL.out.1]; exact info_an) (all_oneCell_toArray HL.out.2.1) ?_
    refine hK.out _ _ (KQ.out.1.setL (vs := L) (o := 0) (.inr KQ.out.2)) (fun _ => ?_)
    clear hK K
    try simp only [Act.put, List.setIfInBounds_toArray, List.set_cons_zero, List.set_cons_succ]
    refine wpAnyH_take (i := 11) (oi := ⟨_, _, _, _, _, _⟩) (v := ?_) rfl (by kernel_rfl) (by kernel_rfl) (by kernel_rfl) (fun _ _ _ h => h) (Or.inl ⟨by rfl, ?_⟩) (KQ.out.1.setL (vs := L) (o := 0) (.inr KQ.out.2)) ?_
    rotate_left
    · intro w' hSw; (go_simp; try with_reducible rfl)
    try simp only [Act.put, List.setIfInBounds_toArray, List.set_cons_zero, List.set_cons_succ]
    refine wpAnyH_done (by kernel_rfl) ?_ _
    have r5 := RQ.out.setL (vs := L) (o := 0)
    rw [putL_all (by simp only [List.size_toArray]; rw [HL.out.1, HZ.out.2.1])] at r5
    have k5 : keepBut [] w3 (W.setCells d 0 L) := (KQ.out.1.setL (vs := L) (o := 0) (.inr KQ.out.2))
    go_upto_region 7 with fail
    try simp only [List.toList_toArray]
    generalize W.setCells d 0 L = W5 at *
    have K5 := Lib.hid k5
    have RD := Lib.hid r5
    have RB1 := Lib.hid (k5.row R1.out (by simp))
    have RB2 := Lib.hid (k5.row R2.out (by simp))
    have HT5 := Lib.hid (HT3.out.over k5)
    have HD := Lib.hid (show b2 < d from by have := HS3.out; have := KQ.out.2; omega)
    have y1 : W5.cell? ⟨b1, 1, none⟩ = some (.int .i64 r.num) := (RB1.out.cell 1).trans HX1.out.2.1
    have yl : W5.cell? ⟨d, 1, none⟩ = some (.int .i64 (ansI s r.client).num) := (RD.out.cell 1).trans HL.out.2.2.2
    have y0 : W5.cell? ⟨b1, 0, none⟩ = some (.int .i64 r.client) := (RB1.out.cell 0).trans HX1.out.1
    clear r5 k5
    have hne := HNE.out.1
    obtain ⟨B, hB⟩ : ∃ B, anL (⟨r.client, r.num, 0, 0, 0, r.name, []⟩ : AN) nilV = B := ⟨_, rfl⟩
    have HBB := Lib.hid (And.intro (show B.length = 38 by rw [← hB]; exact anL_len HN.out) (And.intro (show ∀ v ∈ B, v.oneCell' = true by rw [← hB]; exact anL_one _ rfl) (And.intro hB (hB ▸ build_an015 r.client r.num r.name HN.out))))
    clear hB
    have HNR : Hid (W5.rangeAt b1 4 (nameL r.name)) := Lib.hid (RB1.out.range HX1.out.2.2.2)
    have HIN : Hid ((Tryd.prog.info? 28).map (·.size) = some (nameL r.name).length) := Lib.hid (by rw [nameL_len, HN.out]; exact infoName)
    generalize nameL r.name = NL at HNR HIN HBB
    go_upto_region 10 with (first
      | (refine wpList_load_mid rfl 28 (.tmp 40) rfl b1 4 rfl NL _ HNR.out Tryd.underlying28 rfl HIN.out ?_)
      | (refine wpList_build_pt _ rfl 40 _ rfl B.toArray (by simp only [List.map_toArray, List.map_cons, List.map_nil]; go_simp; exact HBB.out.2.2.2) ?_)
      | (refine wpList_store_mid rfl 40 (.tmp 4) (.tmp 42) rfl b2 0 B.toArray rfl rfl (RB2.out.there (by simp only [List.size_toArray]; rw [HBB.out.1, HZ.out.2.1]; omega)) (by rw [List.size_toArray, HBB.out.1]; exact info_an) (all_oneCell_toArray (HBB.out.2.1)) ?_))
    have r6 := RB2.out.setL (vs := B) (o := 0)
    rw [putL_all (by simp only [List.size_toArray]; rw [HBB.out.1, HZ.out.2.1])] at r6
    have k6 := (keepBut.refl [b2] W5).setL (vs := B) (g := b2) (o := 0) (.inl (by simp))
    try simp only [List.toList_toArray]
    generalize W5.setCells b2 0 B = W6 at *
    have hb1 : b1 ∉ [b2] := by have := HRR.out.2.2; simp; omega
    have hdb : d ∉ [b2] := by have := HD.out; simp; omega
    have hpb : p ∉ [b2] := by have := HH.out.row.lt; have := HRR.out.2.2; have := HB1.out; simp; omega
    have K6 := Lib.hid k6
    have RA := Lib.hid r6
    have RX := Lib.hid (k6.row RB1.out hb1)
    have RP := Lib.hid (k6.row HT5.out.row hpb)
    have y1 : W6.cell? ⟨b1, 1, none⟩ = some (.int .i64 r.num) := (RX.out.cell 1).trans HX1.out.2.1
    have yl : W6.cell? ⟨d, 1, none⟩ = some (.int .i64 (ansI s r.client).num) := ((k6.row RD.out hdb).cell 1).trans HL.out.2.2.2
    clear y0 r6 k6 hb1 hdb hpb hne
    have hlt := HNE.out.2
    go_upto_region 13 with fail
    clear y1 yl hlt
    go_wp2_with (go_at_call 29; refine (acts_any _).mono ?_; rintro e w7 ⟨rfl, kk, rr⟩; have K7 := Lib.hid kk; have RG0 := Lib.hid rr; clear kk rr)
    obtain ⟨g, hg⟩ : ∃ g, W6.heap.size = g := ⟨_, rfl⟩
    rw [hg] at RG0
    try rw [hg]
    have HG := Lib.hid hg
    clear hg
    have h0F : b2 ∉ F0 := fun hm => by have := HLO0.out.2 _ hm; have := HB1.out; have := HRR.out.2.2; omega
    have HQF := Lib.hid h0F
    have k26 : keepBut [b2] w W6 := ((HK.out.then (KC.out.then K5.out (by simp)) (by simp)).more (by simp)).then K6.out (fun x hx => .inl hx)
    have k27 : keepBut [b2] w w7 := k26.then K7.out (by simp)
    have HV7 : Hid (rqV w7 F0 r ev) := Lib.hid ⟨HN.out, HLO0.out.1.keep k27 (fun y hy => by simp only [List.mem_singleton]; rintro rfl; exact h0F hy)⟩
    have HT7 := Lib.hid ((HT5.out.keepQ RB2.out HQA.out.1 K6.out).over K7.out)
    have RA7 := Lib.hid (K7.out.row RA.out (by simp))
    have RX7 := Lib.hid (K7.out.row RX.out (by simp))
    have KB7 := Lib.hid k27
    clear h0F k26 k27
    have KW0 := Lib.hid (keepBut.refl [] w7)
    have HIC : Hid ((Tryd.prog.info? 82).map (·.size) = some 2) := Lib.hid (by kernel_rfl)
    refine wp_loop_rounds 5 ?_
    rw [rounds_succ]
    have RN0 : Hid (w7.rangeAt g 0 [.int .i64 1, .func (.func 52) #[] #[]]) := Lib.hid ((KW0.out.row RG0.out (by simp)).range (fun j v hj => by rcases j with _ | _ | j <;> simp_all))
    go_upto_region 16 with (refine wpList_load_mid rfl 82 (.tmp 59) rfl g 0 rfl [.int .i64 1, .func (.func 52) #[] #[]] _ RN0.out Tryd.underlying82 rfl HIC.out ?_)
    have re := rowAt.new w7 82 #[.int .i64 1, .func (.func 52) #[] #[]]
    have ke := KW0.out.then ((keepBut.refl [] w7).alloc (.cells #[.int .i64 1, .func (.func 52) #[] #[]] 82)) (by simp)
    obtain ⟨e0, he⟩ : ∃ e0, w7.heap.size = e0 := ⟨_, rfl⟩
    rw [he] at re
    try rw [he]
    clear he
    generalize w7.alloc (.cells #[.int .i64 1, .func (.func 52) #[] #[]] 82) = V0 at *
    have KV0 := Lib.hid ke
    have x0 : V0.cell? ⟨e0, 0, none⟩ = some (.int .i64 1) := re.cell 0
    have x2 : V0.cell? ⟨b1, 2, none⟩ = some (.int .i64 2) := ((ke.row RX7.out (by simp)).cell 2).trans (HKD.out ▸ HX1.out.2.2.1)
    clear re ke
    go_wp2_with fail
    clear x0 x2
    rw [rounds_succ]
    have RN1 : Hid (V0.rangeAt g 2 [.int .i64 2, .func (.func 53) #[] #[]]) := Lib.hid ((KV0.out.row RG0.out (by simp)).range (fun j v hj => by rcases j with _ | _ | j <;> simp_all))
    go_upto_region 16 with (refine wpList_load_mid rfl 82 (.tmp 59) rfl g 2 rfl [.int .i64 2, .func (.func 53) #[] #[]] _ RN1.out Tryd.underlying82 rfl HIC.out ?_)
    have re := rowAt.new V0 82 #[.int .i64 2, .func (.func 53) #[] #[]]
    have ke := KV0.out.then ((keepBut.refl [] V0).alloc (.cells #[.int .i64 2, .func (.func 53) #[] #[]] 82)) (by simp)
    obtain ⟨e1, he⟩ : ∃ e1, V0.heap.size = e1 := ⟨_, rfl⟩
    rw [he] at re
    try rw [he]
    clear he
    generalize V0.alloc (.cells #[.int .i64 2, .func (.func 53) #[] #[]] 82) = V1 at *
    have KV1 := Lib.hid ke
    have x0 : V1.cell? ⟨e1, 0, none⟩ = some (.int .i64 2) := re.cell 0
    have x2 : V1.cell? ⟨b1, 2, none⟩ = some (.int .i64 2) := ((ke.row RX7.out (by simp)).cell 2).trans (HKD.out ▸ HX1.out.2.2.1)
    have x1 : V1.cell? ⟨e1, 1, none⟩ = some (.func (.func 53) #[] #[]) := re.cell 1
    have RXL := Lib.hid (ke.row RX7.out (by simp)).rangeAll
    have hact := act_done2 p b2 s F0 r ev (⟨r.client, r.num, 0, 0, 0, r.name, []⟩ : AN) V1 (HT7.out.over ke) ⟨HN.out, HV7.out.2.keep ke (by simp)⟩ (by rw [HBB.out.2.2.1]; exact ke.row RA7.out (by simp)) HQA.out.1 HQF.out HN.out rfl HFI.out.1 HFI.out.2.1 (tok_env HTK.out) HKD.out
    rw [HX.out.2.2] at hact
    have HACT := Lib.hid hact
    clear re ke hact
    go_upto_region 17 with fail
    clear x0 x2
    go_upto_region 18 with (first
      | (refine wpList_load_mid rfl 31 (.tmp 3) rfl b1 0 rfl X _ RXL.out Tryd.underlying31 rfl (by rw [HX.out.1]; exact info_rq) ?_)
      | (go_at_call 53; refine HACT.out.mono ?_; intro e w8 hd; obtain rfl := hd.ret; have AD := Lib.hid hd; clear hd))
    clear x1
    obtain ⟨s2, ht2, hp2, hav2, hiv2, hkv2, hvv2⟩ := AD.out.is
    obtain ⟨v2, G2, hr2, hbv2, hu2, hG2⟩ := AD.out.ans
    obtain ⟨x, hx⟩ : ∃ x, s.pure.act r (⟨r.client, r.num, 0, 0, 0, r.name, []⟩ : AN) = x := ⟨_, rfl⟩
    have hfx := act_facts HH.out r (⟨r.client, r.num, 0, 0, 0, r.name, []⟩ : AN) HN.out rfl
    rw [hx] at hp2 hr2 hbv2 hfx
    have hsz8 : w.heap.size ≤ V1.heap.size := by have h1 := KB7.out.size; have h2 := KV1.out.size; omega
    have hfar : ∀ y ∈ b2 :: p :: (homes s.kv ++ homes s.vv), y < w.heap.size ∨ y = b2 := fun y hy => by
      rcases List.mem_cons.1 hy with rfl | hy
      · exact .inr rfl
      · refine .inl (HQA.out.2 y ?_)
        unfold own
        rcases List.mem_cons.1 hy with rfl | hy
        · simp
        · exact List.mem_cons_of_mem _ (List.mem_append.2 (.inl hy))
    have hb1n : b1 ∉ b2 :: p :: (homes s.kv ++ homes s.vv) := fun hm => by have := hfar _ hm; have := HB1.out; have := HRR.out.2.2; omega
    have hgn : g ∉ b2 :: p :: (homes s.kv ++ homes s.vv) := fun hm => by have := hfar _ hm; have := HG.out; have := HB1.out; have := HRR.out.2.2; have := RA.out.lt; have h5 := (HK.out.then (KC.out.then K5.out (by simp)) (by simp)).size; have h6 := K6.out.size; omega
    have RGX := Lib.hid (AD.out.kept.row (KV1.out.row RG0.out (by simp)) hgn)
    have RXX := Lib.hid (AD.out.kept.row (KV1.out.row RX7.out (by simp)) hb1n)
    have HS2 := Lib.hid (And.intro ht2 (And.intro hp2 (And.intro hav2 (And.intro hiv2 (And.intro hkv2 hvv2)))))
    have HA2 := Lib.hid (And.intro hr2 (And.intro hbv2 (And.intro hu2 hG2)))
    have HXE := Lib.hid hx
    have HFX := Lib.hid hfx
    have H8 := Lib.hid hsz8
    have KWX := Lib.hid (keepBut.refl [] w8)
    clear hfar hb1n hgn ht2 hp2 hav2 hiv2 hkv2 hvv2 hr2 hbv2 hu2 hG2 hx hfx hsz8 HACT
    go_wp2_with fail
    rw [rounds_succ]
    have RN2 : Hid (w8.rangeAt g 4 [.int .i64 3, .func (.func 54) #[] #[]]) := Lib.hid ((KWX.out.row RGX.out (by simp)).range (fun j v hj => by rcases j with _ | _ | j <;> simp_all))
    go_upto_region 16 with (refine wpList_load_mid rfl 82 (.tmp 59) rfl g 4 rfl [.int .i64 3, .func (.func 54) #[] #[]] _ RN2.out Tryd.underlying82 rfl HIC.out ?_)
    have re := rowAt.new w8 82 #[.int .i64 3, .func (.func 54) #[] #[]]
    have ke := KWX.out.then ((keepBut.refl [] w8).alloc (.cells #[.int .i64 3, .func (.func 54) #[] #[]] 82)) (by simp)
    obtain ⟨e2, he⟩ : ∃ e2, w8.heap.size = e2 := ⟨_, rfl⟩
    rw [he] at re
    try rw [he]
    clear he
    generalize w8.alloc (.cells #[.int .i64 3, .func (.func 54) #[] #[]] 82) = V2 at *
    have KV2 := Lib.hid ke
    have x0 : V2.cell? ⟨e2, 0, none⟩ = some (.int .i64 3) := re.cell 0
    have x2 : V2.cell? ⟨b1, 2, none⟩ = some (.int .i64 2) := ((ke.row RXX.out (by simp)).cell 2).trans (HKD.out ▸ HX1.out.2.2.1)
    clear re ke
    go_wp2_with fail
    clear x0 x2
    rw [rounds_succ]
    have RN3 : Hid (V2.rangeAt g 6 [.int .i64 4, .func (.func 55) #[] #[]]) := Lib.hid ((KV2.out.row RGX.out (by simp)).range (fun j v hj => by rcases j with _ | _ | j <;> simp_all))
    go_upto_region 16 with (refine wpList_load_mid rfl 82 (.tmp 59) rfl g 6 rfl [.int .i64 4, .func (.func 55) #[] #[]] _ RN3.out Tryd.underlying82 rfl HIC.out ?_)
    have re := rowAt.new V2 82 #[.int .i64 4, .func (.func 55) #[] #[]]
    have ke := KV2.out.then ((keepBut.refl [] V2).alloc (.cells #[.int .i64 4, .func (.func 55) #[] #[]] 82)) (by simp)
    obtain ⟨e3, he⟩ : ∃ e3, V2.heap.size = e3 := ⟨_, rfl⟩
    rw [he] at re
    try rw [he]
    clear he
    generalize V2.alloc (.cells #[.int .i64 4, .func (.func 55) #[] #[]] 82) = V3 at *
    have KV3 := Lib.hid ke
    have x0 : V3.cell? ⟨e3, 0, none⟩ = some (.int .i64 4) := re.cell 0
    have x2 : V3.cell? ⟨b1, 2, none⟩ = some (.int .i64 2) := ((ke.row RXX.out (by simp)).cell 2).trans (HKD.out ▸ HX1.out.2.2.1)
    clear re ke
    go_wp2_with fail
    clear x0 x2
    rw [rounds_succ]
    have RP9 := Lib.hid (KV3.out.row HS2.out.1.row (by simp))
    have RA9 := Lib.hid (KV3.out.row HA2.out.1 (by simp))
    have RX9 := Lib.hid (KV3.out.row RXX.out (by simp))
    have HT9 := Lib.hid (HS2.out.1.over KV3.out)
    have yp : V3.cell? ⟨p, 0, none⟩ = some (.int .i64 s2.epoch) := RP9.out.cell 0
    have y4 : V3.cell? ⟨b2, 4, none⟩ = some (.int .i64 x.2.epoch) := RA9.out.cell 4
    have f4 := RA9.out.free 4
    go_upto_region 20 with fail
    clear yp y4 f4
    have rA : rowAt (V3.setCell ⟨b2, 4, none⟩ (.int .i64 s2.epoch)) b2 40 (anL { x.2 with epoch := s2.epoch } v2).toArray := RA9.out.set 4 _
    have kA := kset V3 b2 4 (.int .i64 s2.epoch)
    generalize V3.setCell ⟨b2, 4, none⟩ (.int .i64 s2.epoch) = WA at *
    obtain ⟨C, hC⟩ : ∃ C, anL { x.2 with epoch := s2.epoch } v2 = C := ⟨_, rfl⟩
    have HC := Lib.hid (And.intro (show C.length = 38 by rw [← hC]; exact anL_len HFX.out.2.2.1) (And.intro (show ∀ v ∈ C, v.oneCell' = true by rw [← hC]; exact anL_one _ HA2.out.2.1.one) hC))
    rw [hC] at rA
    have hGb : ∀ y ∈ G2, y ∉ [b2] := fun y hy => by have h1 := (HA2.out.2.2.2 y hy).1; have h2 := KV1.out.size; have h3 := RA7.out.lt; simp; omega
    have HBV := Lib.hid ((HA2.out.2.1.keep KV3.out (by simp)).keep kA hGb)
    have hqa : b2 ∉ homes s2.av := by rw [HS2.out.2.2.1]; exact HQA.out.1
    have HTA := Lib.hid (HT9.out.keepQ RA9.out hqa kA)
    have hpb : p ≠ b2 := by have := HH.out.row.lt; have := HB1.out; have := HRR.out.2.2; omega
    have hb2n : b2 ∉ p :: (homes s2.iv ++ homes s2.av) := fun hm => by
      rcases List.mem_cons.1 hm with h1 | h1
      · exact hpb h1.symm
      · rcases List.mem_append.1 h1 with h1 | h1
        · rw [HS2.out.2.2.2.1] at h1; have := HH.out.iown.lt _ h1; have := HB1.out; have := HRR.out.2.2; omega
        · exact hqa h1
    have hb1n : b1 ∉ p :: (homes s2.iv ++ homes s2.av) := fun hm => by
      rcases List.mem_cons.1 hm with h1 | h1
      · have := HH.out.row.lt; have := HB1.out; omega
      · rcases List.mem_append.1 h1 with h1 | h1
        · rw [HS2.out.2.2.2.1] at h1; have := HH.out.iown.lt _ h1; have := HB1.out; omega
        · rw [HS2.out.2.2.1] at h1; have := HH.out.aown.lt _ h1; have := HB1.out; omega
    have HRA : Hid (∀ V, keepBut (p :: (homes s2.iv ++ homes s2.av)) WA V → V.cell? ⟨b1, 0, none⟩ = some (.int .i64 r.client) ∧ V.rangeAt b2 0 C) := Lib.hid (fun V k =>
      ⟨((k.row (kA.row RX9.out (by have := HRR.out.2.2; simp; omega)) hb1n).cell 0).trans HX1.out.1, (k.row rA hb2n).rangeAll⟩)
    have RAA := Lib.hid rA
    have KA := Lib.hid kA
    have HB2N := Lib.hid hb2n
    clear rA kA hGb hqa hpb hb2n hb1n hC
    have HK2 : Hid (s2.keys.length < 100) := Lib.hid (by
      have h1 : s2.pure.answers = s.pure.answers := by rw [HS2.out.2.1, ← HXE.out]; exact act_answers _ _ _
      have h2 : s2.keys = s.keys := by rw [← keys_pure, ← keys_pure]; unfold PT.keys; rw [h1]
      rw [h2]; exact HFI.out.2.2)
    have KS : keepBut (p :: (homes s2.iv ++ homes s2.av)) WA WA.drew := (keepBut.refl _ WA).drew
    refine wp_region_held_drew (S := fun V => keepBut (p :: (homes s2.iv ++ homes s2.av)) WA V) (by kernel_rfl) KS (fun _ => ?_)
    refine wpAnyH_take (i := 0) (oi := ⟨_, _, _, _, _, _⟩) (v := ?_) rfl (by kernel_rfl) (by kernel_rfl) (by kernel_rfl) (fun _ _ _ h => h) (Or.inl ⟨by rfl, ?_⟩) KS ?_
    rotate_left
    · intro w' hSw; (go_simp; try with_reducible rfl)
    try simp only [Act.put, List.setIfInBounds_toArray, List.set_cons_zero, List.set_cons_succ]
    refine wpAnyH_take (i := 1) (oi := ⟨_, _, _, _, _, _⟩) (v := ?_) rfl (by kernel_rfl) (by kernel_rfl) (by kernel_rfl) (fun _ _ _ h => h) (Or.inl ⟨by rfl, ?_⟩) KS ?_
    rotate_left
    · intro w' hSw; (go_simp; try with_reducible rfl)
    try simp only [Act.put, List.setIfInBounds_toArray, List.set_cons_zero, List.set_cons_succ]
    refine wpAnyH_take (i := 2) (oi := ⟨_, _, _, _, _, _⟩) (v := ?_) rfl (by kernel_rfl) (by kernel_rfl) (by kernel_rfl) (fun _ _ _ h => h) (Or.inl ⟨by rfl, ?_⟩) KS ?_
    rotate_left
    · intro w' hSw; (go_simp; try with_reducible rfl)
    try simp only [Act.put, List.setIfInBounds_toArray, List.set_cons_zero, List.set_cons_succ]
    refine wpAnyH_take (i := 3) (oi := ⟨_, _, _, _, _, _⟩) (v := ?_) rfl (by kernel_rfl) (by kernel_rfl) (by kernel_rfl) (fun _ _ _ h => h) (Or.inl ⟨by rfl, ?_⟩) KS ?_
    rotate_left
    · intro w' hSw; (go_simp; try with_reducible rfl)
    try simp only [Act.put, List.setIfInBounds_toArray, List.set_cons_zero, List.set_cons_succ]
    refine wpAnyH_take (i := 4) (oi := ⟨_, _, _, _, _, _⟩) (v := ?_) rfl (by kernel_rfl) (by kernel_rfl) (by kernel_rfl) (fun _ _ _ h => h) (Or.inl ⟨by rfl, ?_⟩) KS ?_
    rotate_left
    · intro w' hSw; have hy := (HRA.out w' hSw).1; (go_simp; try with_reducible rfl)
    try simp only [Act.put, List.setIfInBounds_toArray, List.set_cons_zero, List.set_cons_succ]
    refine wpAnyH_take (i := 5) (oi := ⟨_, _, _, _, _, _⟩) (v := .agg (C).toArray) rfl (by kernel_rfl) (by kernel_rfl) (by kernel_rfl) (fun _ _ _ h => h) (yieldsIf_mid 40 (.tmp 4) rfl b2 0 rfl (C) _ (fun w' hSw => (HRA.out w' hSw).2) Tryd.underlying40 rfl (by rw [HC.out.1]; exact info_an) ?_) KS ?_
    · rfl
    try simp only [Act.put, List.setIfInBounds_toArray, List.set_cons_zero, List.set_cons_succ]
    refine wpAnyH_ready (rs := [6]) (by kernel_rfl) (by simp) ?_
    refine AllReadyH.cons (o := ⟨_, _, _, _, _, _⟩) rfl (fun K hK => ?_) AllReadyH.nil
    go_simp
    refine ((HC.out.2.2 ▸ copied_any G2 { x.2 with epoch := s2.epoch } v2 WA.drew ⟨HFX.out.2.2.1, HBV.out.keep ((keepBut.refl [] WA).drew) (by simp)⟩ (Nat.le_trans HFX.out.2.2.2 (by omega)))).mono ?_
    rintro e wB ⟨vB, GB, rfl, nB⟩
    have NB := Lib.hid nB
    have KB := Lib.hid (KS.then nB.2.2.2 (by simp))
    have KE := Lib.hid (((keepBut.refl [] WA).drew).then nB.2.2.2 (by simp))
    clear nB
    go_wp2_with fail
    refine hK.out _ _ KB.out (fun _ => ?_)
    clear hK K
    try simp only [Act.put, List.setIfInBounds_toArray, List.set_cons_zero, List.set_cons_succ]
    refine wpAnyH_ready (rs := [7]) (by kernel_rfl) (by simp) ?_
    refine AllReadyH.cons (o := ⟨_, _, _, _, _, _⟩) rfl (fun K hK => ?_) AllReadyH.nil
    go_simp
    refine (putI_any p s2 ⟨{ x.2 with epoch := s2.epoch }, vB⟩ GB r.client HFX.out.1 HFX.out.2.2.1 HCL.out wB (HTA.out.over KE.out) HK2.out HFX.out.2.2.2 NB.out.1 NB.out.2.1).mono ?_
    rintro e wD ⟨iv, av, rfl, nD⟩
    have ND := Lib.hid nD
    clear nD
    have RD9 := Lib.hid (ND.out.2.1.row (KE.out.row RAA.out (by simp)) HB2N.out)
    go_wp2_with fail
    refine hK.out _ _ (KB.out.then ND.out.2.1 (fun x hx => .inl hx)) (fun _ => ?_)
    clear hK K
    try simp only [Act.put, List.setIfInBounds_toArray, List.set_cons_zero, List.set_cons_succ]
    refine wpAnyH_done (by kernel_rfl) ?_ _
    go_wp2_with (first
      | (refine wpList_load_mid rfl 40 (.tmp 4) rfl b2 0 rfl C _ (RD9.out).rangeAll Tryd.underlying40 rfl (by rw [HC.out.1]; exact info_an) ?_)
      | (refine wpList_store_mid rfl 40 (.tmp 4) (.tmp 85) rfl b2 0 C.toArray rfl rfl (RD9.out.there (by simp only [List.size_toArray]; omega)) (by rw [List.size_toArray, HC.out.1]; exact info_an) (all_oneCell_toArray (HC.out.2.1)) ?_))
    have r9 := RD9.out.setL (vs := C) (o := 0)
    rw [putL_all (by simp only [List.size_toArray])] at r9
    have k9 := (keepBut.refl [b2] wD).setL (vs := C) (g := b2) (o := 0) (.inl (by simp))
    refine bodyPost_ret (results_row_tmp rfl _ _ b2 40 _ (0, 0) _ rfl r9 Tryd.underlying40 rfl (by rw [List.size_toArray, HC.out.1]; exact info_an)) rfl ?_
    have hdn : s.pure.done r = (x.1.putA { x.2 with epoch := s2.epoch }, { x.2 with epoch := s2.epoch }, 0) := by
      unfold PT.done
      rw [if_neg (by rw [HTK.out]; simp), last_pure, if_neg HNE.out.1, if_neg (Int.not_lt.2 (by have := HNE.out.2; omega)), HXE.out, ← HS2.out.2.1]
      rfl
    rw [hdn]
    have kz := KB7.out.then KV1.out (by simp)
    have sz := kz.size
    have k8 : keepBut (b2 :: own p s) w w8 := (kz.more (by simp)).then AD.out.kept (fun y hy => .inl (by
      unfold own
      rcases List.mem_cons.1 hy with rfl | hy
      · simp
      · rcases List.mem_cons.1 hy with rfl | hy
        · simp
        · exact List.mem_cons_of_mem _ (List.mem_cons_of_mem _ (List.mem_append.2 (.inl hy)))))
    have kC : keepBut (b2 :: own p s) w WA := (k8.then KV3.out (by simp)).then KA.out (fun y hy => by simp at hy; subst hy; exact .inl (by simp))
    have kD : keepBut (b2 :: own p s) w wD := (kC.then KE.out (by simp)).then ND.out.2.1 (fun y hy => .inl (by
      unfold own
      rcases List.mem_cons.1 hy with rfl | hy
      · simp
      · rw [HS2.out.2.2.1, HS2.out.2.2.2.1] at hy
        exact List.mem_cons_of_mem _ (List.mem_cons_of_mem _ (List.mem_append.2 (.inr hy)))))
    have kF : keepBut (b2 :: own p s) w (wD.setCells b2 0 C) := kD.then k9 (fun y hy => by simp at hy; subst hy; exact .inl (by simp))
    have kL : keepBut (own p s) w (wD.setCells b2 0 C) := (keepBut.refl (own p s) w).then kF (fun y hy => by
      rcases List.mem_cons.1 hy with rfl | hy
      · right; have := HRR.out.2.2; have := HB1.out; omega
      · exact .inl hy)
    have hbw : w.heap.size ≤ b2 := by have := HRR.out.2.2; have := HB1.out; omega
    have hGD : ∀ y ∈ G2, y ∉ p :: (homes s2.iv ++ homes s2.av) := fun y hy => by
      have h1 := (HA2.out.2.2.2 y hy).1
      intro hm
      have h2 : y ∈ own p s := by
        unfold own
        rw [HS2.out.2.2.1, HS2.out.2.2.2.1] at hm
        rcases List.mem_cons.1 hm with rfl | hm
        · simp
        · exact List.mem_cons_of_mem _ (List.mem_append.2 (.inr hm))
      have := HQA.out.2 y h2
      omega
    have hGb : ∀ y ∈ G2, y ∉ [b2] := fun y hy => by have h1 := (HA2.out.2.2.2 y hy).1; have h3 := RA7.out.lt; have h2 := KV1.out.size; simp; omega
    have hs9 := kF.size
    have hs8 := AD.out.kept.size
    have hw8 : w8.heap.size ≤ (wD.setCells b2 0 C).heap.size := by have h1 := KV3.out.size; have h2 := KA.out.size; have h3 := KE.out.size; have h4 := ND.out.2.1.size; have h5 := k9.size; omega
    refine ⟨⟨v2, G2, by rw [← HC.out.2.2]; rfl, ((HBV.out.keep KE.out (by simp)).keep ND.out.2.1 hGD).keep k9 hGb, fun y hy => ?_, fun y hy => ⟨by have h1 := (HA2.out.2.2.2 y hy).1; omega, by have h1 := (HA2.out.2.2.2 y hy).2; omega⟩⟩, ⟨_, ND.out.1.keepQ RD9.out ?_ k9, by rw [putA_pure, HS2.out.2.1], fun y hy => ?_⟩, kL⟩
    · obtain ⟨cs, hc⟩ := HA2.out.2.2.1 y hy
      exact ⟨cs, k9.row (ND.out.2.1.row (KE.out.row (KA.out.row (KV3.out.row hc (by simp)) (hGb y hy)) (by simp)) (hGD y hy)) (hGb y hy)⟩
    · intro hm
      rcases ND.out.2.2.2 _ hm with h1 | h1
      · rw [HS2.out.2.2.1] at h1; exact HQA.out.1 h1
      · have := RAA.out.lt; have := KE.out.size; omega
    · unfold own at hy ⊢
      have hwB : w.heap.size ≤ wB.heap.size := by have h1 := kC.size; have h2 := KE.out.size; omega
      rcases List.mem_cons.1 hy with rfl | hy
      · exact .inl (by simp)
      · rcases List.mem_append.1 hy with hy | hy
        · rcases List.mem_append.1 hy with hy | hy
          · rcases HS2.out.2.2.2.2.1 y hy with h1 | h1
            · exact .inl (List.mem_cons_of_mem _ (List.mem_append.2 (.inl (List.mem_append.2 (.inl h1)))))
            · exact .inr (by omega)
          · rcases HS2.out.2.2.2.2.2 y hy with h1 | h1
            · exact .inl (List.mem_cons_of_mem _ (List.mem_append.2 (.inl (List.mem_append.2 (.inr h1)))))
            · exact .inr (by omega)
        · rcases List.mem_append.1 hy with hy | hy
          · rcases ND.out.2.2.1 y hy with h1 | h1
            · rw [HS2.out.2.2.2.1] at h1; exact .inl (List.mem_cons_of_mem _ (List.mem_append.2 (.inr (List.mem_append.2 (.inl h1)))))
            · exact .inr (by omega)
          · rcases ND.out.2.2.2 y hy with h1 | h1
            · rw [HS2.out.2.2.1] at h1; exact .inl (List.mem_cons_of_mem _ (List.mem_append.2 (.inr (List.mem_append.2 (.inr h1)))))
            · exact .inr (by omega))
end Go.Proofs.YtmlmhnhilemjhaaDoor
