/-
  TABLE, 42: made.
-/
import Derived.Test.YtmlmhnhilemjhaaDoorTB41
namespace Go.Proofs.YtmlmhnhilemjhaaDoor
open Go.RowKit
set_option linter.unusedVariables false
set_option maxRecDepth 100000
set_option linter.unusedSimpArgs false

set_option maxHeartbeats 8000000 in
theorem made_f1 (w0 : World) (N : List Nat) (w : World) (p g : Nat) (P : PT) (x : ASK) (ns : List Int) (h : lawT w0 N w p P) (hx : x.ok) (hl : ns.length = 3) (hg : rowAt w g 26 (ns.map (Value.int .i64)).toArray) (hN : g ∈ N ∧ w0.heap.size ≤ g) (hb : ∀ j, 0 ≤ numAt ns j ∧ numAt ns j ≤ 1000000)
    (hc : x.again = false) (hk : ¬ 1 + x.kind % 4 = 2 ∧ ¬ 1 + x.kind % 4 = 4) :
    Calls Tryd.prog 8 #[.pointer (some ⟨p, 0, none⟩), .agg (askL x).toArray, .pointer (some ⟨g, 0, none⟩)] w (madePost w0 N p g P x ns w) := by
  obtain ⟨hj, hjc⟩ := c3_lt x
  obtain ⟨hn, hnc⟩ := n6_lt x
  obtain ⟨j, hj0⟩ : ∃ j, x.c3 = j := ⟨_, rfl⟩
  obtain ⟨n, hn0⟩ : ∃ n, x.n6 = n := ⟨_, rfl⟩
  obtain ⟨k, hk0⟩ : ∃ k, numAt ns j = k := ⟨_, rfl⟩
  rw [hj0] at hj hjc
  try rw [hj0] at hc
  rw [hn0] at hn hnc
  try rw [hk0] at hc
  have hkb := hb j
  rw [hk0] at hkb
  have hget := numAt_get hl hj
  rw [hk0] at hget
  obtain ⟨w1, hw1⟩ : ∃ w1, w.alloc (.cells #[.int .i64 x.client, .int .i64 x.kind, .int .i64 x.name, .int .i64 x.above, .bool x.again] 34) = w1 := ⟨_, rfl⟩
  obtain ⟨Z, hZ⟩ : ∃ Z, rqL rqZero nilV = Z := ⟨_, rfl⟩
  have hz := zv_rq
  rw [hZ] at hz
  have hZl : Z.length = 37 := by rw [← hZ]; exact rqZ_len
  obtain ⟨w2, hw2⟩ : ∃ w2, w1.alloc (.cells Z.toArray 31) = w2 := ⟨_, rfl⟩
  obtain ⟨b1, hb1⟩ : ∃ b1, w.heap.size = b1 := ⟨_, rfl⟩
  obtain ⟨b2, hb2⟩ : ∃ b2, w1.heap.size = b2 := ⟨_, rfl⟩
  have r1 : rowAt w1 b1 34 #[.int .i64 x.client, .int .i64 x.kind, .int .i64 x.name, .int .i64 x.above, .bool x.again] := hb1 ▸ hw1 ▸ rowAt.new _ _ _
  have k1 : keepBut [] w w1 := hw1 ▸ (keepBut.refl [] w).alloc _
  have r2 : rowAt w2 b2 31 Z.toArray := hb2 ▸ hw2 ▸ rowAt.new _ _ _
  have k2 : keepBut [] w1 w2 := hw2 ▸ (keepBut.refl [] w1).alloc _
  have k12 := k1.then k2 (by simp)
  have hlt : b1 < b2 := hb2 ▸ r1.lt
  have hgl := hg.lt
  have HW1 := Lib.hid hw1
  have HW2 := Lib.hid hw2
  have HB := Lib.hid (And.intro hb1 (And.intro hb2 (And.intro hlt (show g < b1 by rw [← hb1]; exact hgl))))
  have R1 := Lib.hid (k2.row r1 (by simp))
  have R2 := Lib.hid r2
  have K12 := Lib.hid k12
  have RG := Lib.hid (k12.row hg (by simp))
  have HT := Lib.hid (h.over k12)
  have H00 := Lib.hid h
  have RG0 := Lib.hid hg
  have HZ := Lib.hid (And.intro hz hZl)
  have HX := Lib.hid hx
  have HL := Lib.hid (And.intro hl (And.intro hj0 (And.intro hn0 hk0)))
  have HN := Lib.hid (And.intro hN hb)
  have HJ := Lib.hid (And.intro hjc (And.intro hnc (And.intro hj (And.intro hn hkb))))
  have HC := Lib.hid hc
  have HKD := Lib.hid hk
  have HGT := Lib.hid hget
  have bj : (j : Int) < 3 := by omega
  clear hw1 hw2 hb1 hb2 r1 r2 k1 k2 k12 hz hZ hZl hg h hx hl hj0 hn0 hk0 hN hb hjc hnc hlt hgl hc hk hget
  go_enter Tryd.func8, Tryd.ntmps8
  go_upto_region 1 with (first
    | (with_reducible refine wpList_box_to _ _ rfl 34 (.tmp 1) rfl _ rfl HW1.out ?_; rw [HB.out.1])
    | (with_reducible refine wpList_alloc_to _ _ rfl 31 rfl _ HZ.out.1 HW2.out ?_; rw [HB.out.2.1]))
  have y0 : w2.cell? ⟨b1, 0, none⟩ = some (.int .i64 x.client) := R1.out.cell 0
  have y4 : w2.cell? ⟨b1, 4, none⟩ = some (.bool x.again) := R1.out.cell 4
  have yg : w2.cell? ⟨g, j, none⟩ = some (.int .i64 k) := (RG.out.cell j).trans (by rw [List.getElem?_toArray, List.getElem?_map, HGT.out]; rfl)
  have fg := RG.out.free j
  have hca := HC.out
  go_upto_region 2 with (go_at_call 22; refine (bring_any _ _ HX.out.c.1 HX.out.c.2 (by omega) (by omega) _).mono ?_; rintro e w' ⟨rfl, rfl⟩; rw [HJ.out.1])
  go_upto_region 3 with fail
  have hw1 : IntKind.i64.wrap (k + 1) = k + 1 := by rw [IntKind.wrap_i64]; have := HJ.out.2.2.2.2; omega
  go_region
  go_upto_region 4 with fail
  have hns : numsP x ns = ns.set j (k + 1) := by
    unfold numsP
    rw [HL.out.2.1, HL.out.2.2.2]
    rw [if_pos (.inl HC.out)]
  have r3 := RG.out.set j (.int .i64 (k + 1))
  rw [show (ns.map (Value.int .i64)).toArray.setIfInBounds j (.int .i64 (k + 1)) = ((numsP x ns).map (Value.int .i64)).toArray by rw [hns, List.map_set, List.setIfInBounds_toArray]] at r3
  have k3 := (kset w2 g j (.int .i64 (k + 1))).drew
  have r3 : rowAt (w2.setCell ⟨g, j, none⟩ (.int .i64 (k + 1))).drew g 26 ((numsP x ns).map (Value.int .i64)).toArray := r3
  generalize (w2.setCell ⟨g, j, none⟩ (.int .i64 (k + 1))).drew = w3 at *
  clear hns hw1
  clear y0 y4 yg fg
  obtain ⟨m, hm⟩ : ∃ m, numAt (numsP x ns) j = m := ⟨_, rfl⟩
  have hgm := numAt_get (numsP_len (x := x) HL.out.1) HJ.out.2.2.1
  rw [hm] at hgm
  have R3 := Lib.hid r3
  have K3 := Lib.hid k3
  have HM := Lib.hid (And.intro hm hgm)
  have HT3 := Lib.hid (HT.out.poke k3 (fun y hy => by simp at hy; subst hy; exact ⟨HN.out.1.1, HN.out.1.2, _, _, RG.out, by decide⟩))
  have R13 := Lib.hid (k3.row R1.out (by have := HB.out.2.2.2; simp; omega))
  have R23 := Lib.hid (k3.row R2.out (by have := HB.out.2.2; simp; omega))
  clear r3 k3 hm hgm
  have y2 : w3.cell? ⟨b1, 2, none⟩ = some (.int .i64 x.name) := R13.out.cell 2
  obtain ⟨ZN, hZN⟩ : ∃ Z, nameL nameZ = Z := ⟨_, rfl⟩
  have hzn := zv_nm
  rw [hZN] at hzn
  obtain ⟨NL, hNL⟩ : ∃ NL, nameL (nameP n) = NL := ⟨_, rfl⟩
  have HZN := Lib.hid (And.intro hzn (show ZN.length = 32 by rw [← hZN, nameL_len, nameZ_len]))
  have HNL := Lib.hid (And.intro (show NL.length = 32 by rw [← hNL, nameL_len]; rfl) (And.intro (show ∀ u ∈ NL, u.oneCell' = true by rw [← hNL]; exact nameL_one) hNL))
  have HNA := Lib.hid (hNL ▸ name_any n HJ.out.2.2.2.1)
  have HGE := Lib.hid (fun W (k : keepBut [] w3 W) => hNL ▸ (HT3.out.over k).get (t := nameP n) (nameP_len n))
  have HINN : Hid ((Tryd.prog.info? 28).map (·.size) = some NL.length) := Lib.hid (by rw [HNL.out.1]; exact infoName)
  clear hZN hzn hNL
  go_upto_region 5 with (first
    | (go_at_call 22; refine (bring_any _ _ HX.out.n.1 HX.out.n.2 (by omega) (by omega) _).mono ?_; rintro e w' ⟨rfl, rfl⟩; rw [HJ.out.2.1])
    | (go_at_call 16; refine (HNA.out w3).mono ?_; rintro e w4 ⟨rfl, k4⟩; have K4 := Lib.hid k4; clear k4)
    | (refine wpList_alloc_to _ _ rfl 28 rfl _ HZN.out.1 (rfl : w4.alloc (.cells ZN.toArray 28) = _) ?_; have RZ := Lib.hid (rowAt.new w4 28 ZN.toArray); have KZ := Lib.hid ((keepBut.refl [] w4).alloc (.cells ZN.toArray 28)); obtain ⟨d, hd⟩ : ∃ d, w4.heap.size = d := ⟨_, rfl⟩; have HD := Lib.hid hd; rw [hd] at RZ ⊢; generalize w4.alloc (.cells ZN.toArray 28) = w5 at *; clear hd)
    | (refine wpList_store_mid rfl 28 (.tmp 8) (.tmp 39) rfl d 0 NL.toArray rfl rfl (RZ.out.there (by simp only [List.size_toArray]; rw [HNL.out.1, HZN.out.2]; omega)) (by rw [List.size_toArray]; exact HINN.out) (all_oneCell_toArray HNL.out.2.1) ?_))
  clear y2
  have r6 := RZ.out.setL (vs := NL) (o := 0)
  rw [putL_all (by simp only [List.size_toArray]; rw [HNL.out.1, HZN.out.2])] at r6
  have k6 := (keepBut.refl [d] w5).setL (vs := NL) (g := d) (o := 0) (.inl (by simp))
  try simp only [List.toList_toArray]
  generalize w5.setCells d 0 NL = w6 at *
  have k36 : keepBut [] w3 w6 := (K4.out.then KZ.out (by simp)).then k6 (fun x hx => by simp at hx; subst hx; right; have := HD.out; have := K4.out.size; omega)
  have K36 := Lib.hid k36
  have R6 := Lib.hid r6
  clear r6 k6 k36
  have HGG := Lib.hid (HGE.out w6 K36.out)
  go_upto_region 6 with (first
    | (refine wpList_load_mid rfl 28 (.tmp 8) rfl d 0 rfl NL _ R6.out.rangeAll Tryd.underlying28 rfl HINN.out ?_)
    | (go_at_call 9; refine HGG.out.mono ?_; rintro e w7 ⟨v7, G7, rfl, _, _, k7⟩; have K7 := Lib.hid k7; clear k7))
  have K37 := Lib.hid (K36.out.then K7.out (by simp))
  obtain ⟨B, hB⟩ : ∃ B, rqL (⟨j, m, 1 + x.kind % 4, 0, nameP n, []⟩ : RQ) nilV = B := ⟨_, rfl⟩
  have hbb : Tryd.prog.built 31 _ = some (rqL (⟨j, m, 1 + x.kind % 4, 0, nameP n, []⟩ : RQ) nilV).toArray := build_rq0124 (j : Int) m (1 + x.kind % 4) (nameP n) rfl
  rw [hB, HNL.out.2.2] at hbb
  have HBB := Lib.hid (And.intro (show B.length = 37 by rw [← hB]; exact rqL_len rfl) (And.intro (show ∀ u ∈ B, u.oneCell' = true by rw [← hB]; exact rqL_one _ rfl) (And.intro hB hbb)))
  clear hB hbb
  have HFS : Hid (∀ V, keepBut [] w7 V → V.cell? ⟨g, j, none⟩ = some (.int .i64 m) ∧ V.cell? ⟨b1, 1, none⟩ = some (.int .i64 x.kind) ∧ V.rangeAt d 0 NL) := Lib.hid (fun V k =>
    ⟨(((K37.out.then k (by simp)).row R3.out (by simp)).cell j).trans (by rw [List.getElem?_toArray, List.getElem?_map, HM.out.2]; rfl), ((K37.out.then k (by simp)).row R13.out (by simp)).cell 1, ((K7.out.then k (by simp)).row R6.out (by simp)).rangeAll⟩)
  have hw9 : IntKind.i64.wrap (1 + x.kind % 4) = 1 + x.kind % 4 := by rw [IntKind.wrap_i64]; omega
  have KS : keepBut [] w7 w7.drew := (keepBut.refl [] w7).drew
  refine wp_region_held_drew (S := fun V => keepBut [] w7 V) (by kernel_rfl) KS (fun _ => ?_)
  refine wpAnyH_take (i := 0) (oi := ⟨_, _, _, _, _, _⟩) (v := ?_) rfl (by kernel_rfl) (by kernel_rfl) (by kernel_rfl) (fun _ _ _ h => h) (Or.inl ⟨by rfl, ?_⟩) KS ?_
  rotate_left
  · intro w' hSw; (go_simp; try with_reducible rfl)
  try simp only [Act.put, List.setIfInBounds_toArray, List.set_cons_zero, List.set_cons_succ]
  refine wpAnyH_take (i := 1) (oi := ⟨_, _, _, _, _, _⟩) (v := ?_) rfl (by kernel_rfl) (by kernel_rfl) (by kernel_rfl) (fun _ _ _ h => h) (Or.inl ⟨by rfl, ?_⟩) KS ?_
  rotate_left
  · intro w' hSw; (go_simp; try with_reducible rfl)
  try simp only [Act.put, List.setIfInBounds_toArray, List.set_cons_zero, List.set_cons_succ]
  refine wpAnyH_take (i := 2) (oi := ⟨_, _, _, _, _, _⟩) (v := ?_) rfl (by kernel_rfl) (by kernel_rfl) (by kernel_rfl) (fun _ _ _ h => h) (Or.inl ⟨by rfl, ?_⟩) KS ?_
  rotate_left
  · intro w' hSw; (go_simp; try with_reducible rfl)
  try simp only [Act.put, List.setIfInBounds_toArray, List.set_cons_zero, List.set_cons_succ]
  refine wpAnyH_take (i := 3) (oi := ⟨_, _, _, _, _, _⟩) (v := ?_) rfl (by kernel_rfl) (by kernel_rfl) (by kernel_rfl) (fun _ _ _ h => h) (Or.inl ⟨by rfl, ?_⟩) KS ?_
  rotate_left
  · intro w' hSw; (go_simp; try with_reducible rfl)
  try simp only [Act.put, List.setIfInBounds_toArray, List.set_cons_zero, List.set_cons_succ]
  refine wpAnyH_take (i := 4) (oi := ⟨_, _, _, _, _, _⟩) (v := ?_) rfl (by kernel_rfl) (by kernel_rfl) (by kernel_rfl) (fun _ _ _ h => h) (Or.inl ⟨by rfl, ?_⟩) KS ?_
  rotate_left
  · intro w' hSw; (go_simp; try with_reducible rfl)
  try simp only [Act.put, List.setIfInBounds_toArray, List.set_cons_zero, List.set_cons_succ]
  refine wpAnyH_take (i := 5) (oi := ⟨_, _, _, _, _, _⟩) (v := ?_) rfl (by kernel_rfl) (by kernel_rfl) (by kernel_rfl) (fun _ _ _ h => h) (Or.inl ⟨by rfl, ?_⟩) KS ?_
  rotate_left
  · intro w' hSw; have hy := (HFS.out w' hSw).1; (go_simp; try with_reducible rfl)
  try simp only [Act.put, List.setIfInBounds_toArray, List.set_cons_zero, List.set_cons_succ]
  refine wpAnyH_take (i := 6) (oi := ⟨_, _, _, _, _, _⟩) (v := ?_) rfl (by kernel_rfl) (by kernel_rfl) (by kernel_rfl) (fun _ _ _ h => h) (Or.inl ⟨by rfl, ?_⟩) KS ?_
  rotate_left
  · intro w' hSw; (go_simp; try with_reducible rfl)
  try simp only [Act.put, List.setIfInBounds_toArray, List.set_cons_zero, List.set_cons_succ]
  refine wpAnyH_take (i := 7) (oi := ⟨_, _, _, _, _, _⟩) (v := ?_) rfl (by kernel_rfl) (by kernel_rfl) (by kernel_rfl) (fun _ _ _ h => h) (Or.inl ⟨by rfl, ?_⟩) KS ?_
  rotate_left
  · intro w' hSw; have hy := (HFS.out w' hSw).2.1; (go_simp; try with_reducible rfl)
  try simp only [Act.put, List.setIfInBounds_toArray, List.set_cons_zero, List.set_cons_succ]
  refine wpAnyH_take (i := 10) (oi := ⟨_, _, _, _, _, _⟩) (v := .agg (NL).toArray) rfl (by kernel_rfl) (by kernel_rfl) (by kernel_rfl) (fun _ _ _ h => h) (yieldsIf_mid 28 (.tmp 8) rfl d 0 rfl (NL) _ (fun w' hSw => (HFS.out w' hSw).2.2) Tryd.underlying28 rfl (HINN.out) ?_) KS ?_
  · rfl
  try simp only [Act.put, List.setIfInBounds_toArray, List.set_cons_zero, List.set_cons_succ]
  refine wpAnyH_ready (rs := [8, 12]) (by kernel_rfl) (by simp) ?_
  refine AllReadyH.cons (o := ⟨_, _, _, _, _, _⟩) rfl (fun K hK => ?_) (AllReadyH.cons (o := ⟨_, _, _, _, _, _⟩) rfl (fun K hK => ?_) AllReadyH.nil)
  focus (
    go_simp
    refine (bring_any _ _ HX.out.k.1 HX.out.k.2 (by omega) (by omega) _).mono ?_
    rintro e w8 ⟨rfl, rfl⟩
    go_wp2_with fail
    refine hK.out _ _ KS (fun _ => ?_)
    clear hK K
    try simp only [Act.put, List.setIfInBounds_toArray, List.set_cons_zero, List.set_cons_succ]
    refine wpAnyH_take (i := 9) (oi := ⟨_, _, _, _, _, _⟩) (v := ?_) rfl (by kernel_rfl) (by kernel_rfl) (by kernel_rfl) (fun _ _ _ h => h) (Or.inl ⟨by rfl, ?_⟩) KS ?_
    rotate_left
    · intro w' hSw; (go_simp; try with_reducible rfl)
    try simp only [Act.put, List.setIfInBounds_toArray, List.set_cons_zero, List.set_cons_succ]
    refine wpAnyH_take (i := 11) (oi := ⟨_, _, _, _, _, _⟩) (v := .agg B.toArray) rfl (by kernel_rfl) (by kernel_rfl) (by kernel_rfl) (fun _ _ _ h => h) (yieldsIf_build 31 _ rfl ?_ _ ?_) KS ?_
    · rfl
    · simp only [List.map_toArray, List.map_cons, List.map_nil]
      go_simp
      exact HBB.out.2.2.2
    try simp only [Act.put, List.setIfInBounds_toArray, List.set_cons_zero, List.set_cons_succ]
    refine wpAnyH_ready (rs := [12]) (by kernel_rfl) (by simp) ?_
    refine AllReadyH.cons (o := ⟨_, _, _, _, _, _⟩) rfl (fun K hK => ?_) AllReadyH.nil
    refine step_alloc_to _ _ rfl 31 rfl Z.toArray HZ.out.1 (rfl : w7.drew.alloc (.cells Z.toArray 31) = _) ?_
    refine hK.out _ _ (KS.alloc (.cells Z.toArray 31)) (fun _ => ?_)
    clear hK K
    try simp only [Act.put, List.setIfInBounds_toArray, List.set_cons_zero, List.set_cons_succ]
    have RQQ := Lib.hid (rowAt.new w7.drew 31 Z.toArray)
    have KA := Lib.hid (KS.alloc (.cells Z.toArray 31))
    obtain ⟨dr, hdr⟩ : ∃ d, w7.drew.heap.size = d := ⟨_, rfl⟩
    rw [hdr] at RQQ
    try rw [hdr]
    have HDR : Hid (w7.heap.size = dr) := Lib.hid hdr
    change w7.heap.size = dr at hdr
    try rw [hdr]
    clear hdr
    generalize w7.drew.alloc (.cells Z.toArray 31) = W at *)
  rotate_left
  focus (
    refine step_alloc_to _ _ rfl 31 rfl Z.toArray HZ.out.1 (rfl : w7.drew.alloc (.cells Z.toArray 31) = _) ?_
    refine hK.out _ _ (KS.alloc (.cells Z.toArray 31)) (fun _ => ?_)
    clear hK K
    try simp only [Act.put, List.setIfInBounds_toArray, List.set_cons_zero, List.set_cons_succ]
    have RQQ := Lib.hid (rowAt.new w7.drew 31 Z.toArray)
    have KA := Lib.hid (KS.alloc (.cells Z.toArray 31))
    obtain ⟨dr, hdr⟩ : ∃ d, w7.drew.heap.size = d := ⟨_, rfl⟩
    rw [hdr] at RQQ
    try rw [hdr]
    have HDR : Hid (w7.heap.size = dr) := Lib.hid hdr
    change w7.heap.size = dr at hdr
    try rw [hdr]
    clear hdr
    generalize w7.drew.alloc (.cells Z.toArray 31) = W at *
    refine wpAnyH_ready (rs := [8]) (by kernel_rfl) (by simp) ?_
    refine AllReadyH.cons (o := ⟨_, _, _, _, _, _⟩) rfl (fun K hK => ?_) AllReadyH.nil
    go_simp
    refine (bring_any _ _ HX.out.k.1 HX.out.k.2 (by omega) (by omega) _).mono ?_
    rintro e w8 ⟨rfl, rfl⟩
    go_wp2_with fail
    refine hK.out _ _ KA.out (fun _ => ?_)
    clear hK K
    try simp only [Act.put, List.setIfInBounds_toArray, List.set_cons_zero, List.set_cons_succ]
    refine wpAnyH_take (i := 9) (oi := ⟨_, _, _, _, _, _⟩) (v := ?_) rfl (by kernel_rfl) (by kernel_rfl) (by kernel_rfl) (fun _ _ _ h => h) (Or.inl ⟨by rfl, ?_⟩) KA.out ?_
    rotate_left
    · intro w' hSw; (go_simp; try with_reducible rfl)
    try simp only [Act.put, List.setIfInBounds_toArray, List.set_cons_zero, List.set_cons_succ]
    refine wpAnyH_take (i := 11) (oi := ⟨_, _, _, _, _, _⟩) (v := .agg B.toArray) rfl (by kernel_rfl) (by kernel_rfl) (by kernel_rfl) (fun _ _ _ h => h) (yieldsIf_build 31 _ rfl ?_ _ ?_) KA.out ?_
    · rfl
    · simp only [List.map_toArray, List.map_cons, List.map_nil]
      go_simp
      exact HBB.out.2.2.2
    try simp only [Act.put, List.setIfInBounds_toArray, List.set_cons_zero, List.set_cons_succ])
  all_goals (
    refine wpAnyH_ready (rs := [13]) (by kernel_rfl) (by simp) ?_
    refine AllReadyH.cons (o := ⟨_, _, _, _, _, _⟩) rfl (fun K hK => ?_) AllReadyH.nil
    refine step_store_mid rfl 31 (.tmp 11) (.tmp 57) rfl dr 0 B.toArray rfl rfl (RQQ.out.there (by simp only [List.size_toArray]; rw [HBB.out.1, HZ.out.2]; omega)) (by rw [List.size_toArray, HBB.out.1]; exact info_rq) (all_oneCell_toArray HBB.out.2.1) ?_
    refine hK.out _ _ (KA.out.setL (vs := B) (o := 0) (.inr (by have := HDR.out; omega))) (fun _ => ?_)
    clear hK K
    try simp only [Act.put, List.setIfInBounds_toArray, List.set_cons_zero, List.set_cons_succ]
    refine wpAnyH_done (by kernel_rfl) ?_ _
    have r8 := RQQ.out.setL (vs := B) (o := 0)
    rw [putL_all (by simp only [List.size_toArray]; rw [HBB.out.1, HZ.out.2])] at r8
    have k8 : keepBut [] w7 (W.setCells dr 0 B) := (KA.out.setL (vs := B) (o := 0) (.inr (by have := HDR.out; omega)))
    go_upto_region 7 with fail
    try simp only [List.toList_toArray]
    generalize W.setCells dr 0 B = w8 at *
    have K38 := Lib.hid (K37.out.then k8 (by simp))
    have R8 := Lib.hid r8
    clear r8 k8
    have y2 : w8.cell? ⟨dr, 2, none⟩ = some (.int .i64 (1 + x.kind % 4)) := (R8.out.cell 2).trans (by rw [← HBB.out.2.2.1]; rfl)
    have hkd := HKD.out
    go_upto_region 14 with fail
    clear y2 hkd hw9
    have R9 := R8
    have K39 := K38
    have HE9 : Hid (bytesV w8 [] nilV []) := Lib.hid (bytesV.nil _ _)
    have HEN : Hid (newIn w3 w8 []) := Lib.hid (fun y hy => by simp at hy)
    obtain ⟨C, hC⟩ : ∃ C, rqL (⟨(j : Int), m, 1 + x.kind % 4, 0, nameP n, []⟩ : RQ) nilV = C := ⟨_, rfl⟩
    have R9c : Hid (rowAt w8 dr 31 C.toArray) := Lib.hid (by rw [← hC]; first | exact R9.out | (rw [HBB.out.2.2.1]; exact R9.out))
    have HC := Lib.hid (And.intro (show C.length = 37 by rw [← hC]; exact rqL_len rfl) (And.intro (show ∀ u ∈ C, u.oneCell' = true by rw [← hC]; exact rqL_one _ HE9.out.one) hC))
    clear hC
    have R2c := Lib.hid (K39.out.row R23.out (by simp))
    go_wp2_with (first
      | (refine wpList_load_mid rfl 31 (.tmp 11) rfl dr 0 rfl C _ R9c.out.rangeAll Tryd.underlying31 rfl (by rw [HC.out.1]; exact info_rq) ?_)
      | (refine wpList_store_mid rfl 31 (.tmp 6) (.tmp 89) rfl b2 0 C.toArray rfl rfl (R2c.out.there (by simp only [List.size_toArray]; rw [HC.out.1, HZ.out.2]; omega)) (by rw [List.size_toArray, HC.out.1]; exact info_rq) (all_oneCell_toArray HC.out.2.1) ?_))
    all_goals (
      have rz := R2c.out.setL (vs := C) (o := 0)
      rw [putL_all (by simp only [List.size_toArray]; rw [HC.out.1, HZ.out.2])] at rz
      have kz := (keepBut.refl [b2] w8).setL (vs := C) (g := b2) (o := 0) (.inl (by simp))
      refine bodyPost_ret (results_cell_row rfl _ _ b2 31 _ (0, 0) _ rfl rz Tryd.underlying31 rfl (by rw [List.size_toArray, HC.out.1]; exact info_rq)) rfl ?_
      have hmp : madeP P x ns = ⟨(j : Int), m, 1 + x.kind % 4, 0, nameP n, []⟩ := by
        unfold madeP
        rw [HL.out.2.1, HL.out.2.2.1, HM.out.1]
        rw [if_neg HKD.out.1, if_neg HKD.out.2]
      rw [show madePost w0 N p g P x ns w = madePost w0 N p g P x ns w from rfl]
      have hb := HB.out
      have hs3 : w.heap.size ≤ w3.heap.size := by have h1 := K12.out.size; have h2 := K3.out.size; omega
      have kf : keepBut [g] w (w8.setCells b2 0 C) := (((K12.out.more (by simp)).then K3.out (fun y hy => .inl hy)).then K39.out (by simp)).then kz (fun y hy => by simp at hy; subst hy; right; omega)
      have hGb : ∀ y ∈ ([] : List Nat), y ∉ [b2] := fun y hy => by have h1 := (HEN.out y hy).1; have h2 := R23.out.lt; simp; omega
      unfold madePost
      rw [hmp]
      refine ⟨nilV, [], by rw [HC.out.2.2], ⟨rfl, HE9.out.keep kz hGb⟩, fun y hy => ⟨by have := (HEN.out y hy).1; omega, by have h1 := (HEN.out y hy).2; have h2 := kz.size; omega⟩, kz.row (K39.out.row R3.out (by simp)) (by simp; omega), H00.out.poke kf (fun y hy => by simp at hy; subst hy; exact ⟨HN.out.1.1, HN.out.1.2, _, _, RG0.out, by decide⟩), kf⟩))
set_option maxHeartbeats 8000000 in
theorem made_f2 (w0 : World) (N : List Nat) (w : World) (p g : Nat) (P : PT) (x : ASK) (ns : List Int) (h : lawT w0 N w p P) (hx : x.ok) (hl : ns.length = 3) (hg : rowAt w g 26 (ns.map (Value.int .i64)).toArray) (hN : g ∈ N ∧ w0.heap.size ≤ g) (hb : ∀ j, 0 ≤ numAt ns j ∧ numAt ns j ≤ 1000000)
    (hc : x.again = false) (hk : 1 + x.kind % 4 = 2) :
    Calls Tryd.prog 8 #[.pointer (some ⟨p, 0, none⟩), .agg (askL x).toArray, .pointer (some ⟨g, 0, none⟩)] w (madePost w0 N p g P x ns w) := by
  obtain ⟨hj, hjc⟩ := c3_lt x
  obtain ⟨hn, hnc⟩ := n6_lt x
  obtain ⟨j, hj0⟩ : ∃ j, x.c3 = j := ⟨_, rfl⟩
  obtain ⟨n, hn0⟩ : ∃ n, x.n6 = n := ⟨_, rfl⟩
  obtain ⟨k, hk0⟩ : ∃ k, numAt ns j = k := ⟨_, rfl⟩
  rw [hj0] at hj hjc
  try rw [hj0] at hc
  rw [hn0] at hn hnc
  try rw [hk0] at hc
  have hkb := hb j
  rw [hk0] at hkb
  have hget := numAt_get hl hj
  rw [hk0] at hget
  obtain ⟨w1, hw1⟩ : ∃ w1, w.alloc (.cells #[.int .i64 x.client, .int .i64 x.kind, .int .i64 x.name, .int .i64 x.above, .bool x.again] 34) = w1 := ⟨_, rfl⟩
  obtain ⟨Z, hZ⟩ : ∃ Z, rqL rqZero nilV = Z := ⟨_, rfl⟩
  have hz := zv_rq
  rw [hZ] at hz
  have hZl : Z.length = 37 := by rw [← hZ]; exact rqZ_len
  obtain ⟨w2, hw2⟩ : ∃ w2, w1.alloc (.cells Z.toArray 31) = w2 := ⟨_, rfl⟩
  obtain ⟨b1, hb1⟩ : ∃ b1, w.heap.size = b1 := ⟨_, rfl⟩
  obtain ⟨b2, hb2⟩ : ∃ b2, w1.heap.size = b2 := ⟨_, rfl⟩
  have r1 : rowAt w1 b1 34 #[.int .i64 x.client, .int .i64 x.kind, .int .i64 x.name, .int .i64 x.above, .bool x.again] := hb1 ▸ hw1 ▸ rowAt.new _ _ _
  have k1 : keepBut [] w w1 := hw1 ▸ (keepBut.refl [] w).alloc _
  have r2 : rowAt w2 b2 31 Z.toArray := hb2 ▸ hw2 ▸ rowAt.new _ _ _
  have k2 : keepBut [] w1 w2 := hw2 ▸ (keepBut.refl [] w1).alloc _
  have k12 := k1.then k2 (by simp)
  have hlt : b1 < b2 := hb2 ▸ r1.lt
  have hgl := hg.lt
  have HW1 := Lib.hid hw1
  have HW2 := Lib.hid hw2
  have HB := Lib.hid (And.intro hb1 (And.intro hb2 (And.intro hlt (show g < b1 by rw [← hb1]; exact hgl))))
  have R1 := Lib.hid (k2.row r1 (by simp))
  have R2 := Lib.hid r2
  have K12 := Lib.hid k12
  have RG := Lib.hid (k12.row hg (by simp))
  have HT := Lib.hid (h.over k12)
  have H00 := Lib.hid h
  have RG0 := Lib.hid hg
  have HZ := Lib.hid (And.intro hz hZl)
  have HX := Lib.hid hx
  have HL := Lib.hid (And.intro hl (And.intro hj0 (And.intro hn0 hk0)))
  have HN := Lib.hid (And.intro hN hb)
  have HJ := Lib.hid (And.intro hjc (And.intro hnc (And.intro hj (And.intro hn hkb))))
  have HC := Lib.hid hc
  have HKD := Lib.hid hk
  have HGT := Lib.hid hget
  have bj : (j : Int) < 3 := by omega
  clear hw1 hw2 hb1 hb2 r1 r2 k1 k2 k12 hz hZ hZl hg h hx hl hj0 hn0 hk0 hN hb hjc hnc hlt hgl hc hk hget
  go_enter Tryd.func8, Tryd.ntmps8
  go_upto_region 1 with (first
    | (with_reducible refine wpList_box_to _ _ rfl 34 (.tmp 1) rfl _ rfl HW1.out ?_; rw [HB.out.1])
    | (with_reducible refine wpList_alloc_to _ _ rfl 31 rfl _ HZ.out.1 HW2.out ?_; rw [HB.out.2.1]))
  have y0 : w2.cell? ⟨b1, 0, none⟩ = some (.int .i64 x.client) := R1.out.cell 0
  have y4 : w2.cell? ⟨b1, 4, none⟩ = some (.bool x.again) := R1.out.cell 4
  have yg : w2.cell? ⟨g, j, none⟩ = some (.int .i64 k) := (RG.out.cell j).trans (by rw [List.getElem?_toArray, List.getElem?_map, HGT.out]; rfl)
  have fg := RG.out.free j
  have hca := HC.out
  go_upto_region 2 with (go_at_call 22; refine (bring_any _ _ HX.out.c.1 HX.out.c.2 (by omega) (by omega) _).mono ?_; rintro e w' ⟨rfl, rfl⟩; rw [HJ.out.1])
  go_upto_region 3 with fail
  have hw1 : IntKind.i64.wrap (k + 1) = k + 1 := by rw [IntKind.wrap_i64]; have := HJ.out.2.2.2.2; omega
  go_region
  go_upto_region 4 with fail
  have hns : numsP x ns = ns.set j (k + 1) := by
    unfold numsP
    rw [HL.out.2.1, HL.out.2.2.2]
    rw [if_pos (.inl HC.out)]
  have r3 := RG.out.set j (.int .i64 (k + 1))
  rw [show (ns.map (Value.int .i64)).toArray.setIfInBounds j (.int .i64 (k + 1)) = ((numsP x ns).map (Value.int .i64)).toArray by rw [hns, List.map_set, List.setIfInBounds_toArray]] at r3
  have k3 := (kset w2 g j (.int .i64 (k + 1))).drew
  have r3 : rowAt (w2.setCell ⟨g, j, none⟩ (.int .i64 (k + 1))).drew g 26 ((numsP x ns).map (Value.int .i64)).toArray := r3
  generalize (w2.setCell ⟨g, j, none⟩ (.int .i64 (k + 1))).drew = w3 at *
  clear hns hw1
  clear y0 y4 yg fg
  obtain ⟨m, hm⟩ : ∃ m, numAt (numsP x ns) j = m := ⟨_, rfl⟩
  have hgm := numAt_get (numsP_len (x := x) HL.out.1) HJ.out.2.2.1
  rw [hm] at hgm
  have R3 := Lib.hid r3
  have K3 := Lib.hid k3
  have HM := Lib.hid (And.intro hm hgm)
  have HT3 := Lib.hid (HT.out.poke k3 (fun y hy => by simp at hy; subst hy; exact ⟨HN.out.1.1, HN.out.1.2, _, _, RG.out, by decide⟩))
  have R13 := Lib.hid (k3.row R1.out (by have := HB.out.2.2.2; simp; omega))
  have R23 := Lib.hid (k3.row R2.out (by have := HB.out.2.2; simp; omega))
  clear r3 k3 hm hgm
  have y2 : w3.cell? ⟨b1, 2, none⟩ = some (.int .i64 x.name) := R13.out.cell 2
  obtain ⟨ZN, hZN⟩ : ∃ Z, nameL nameZ = Z := ⟨_, rfl⟩
  have hzn := zv_nm
  rw [hZN] at hzn
  obtain ⟨NL, hNL⟩ : ∃ NL, nameL (nameP n) = NL := ⟨_, rfl⟩
  have HZN := Lib.hid (And.intro hzn (show ZN.length = 32 by rw [← hZN, nameL_len, nameZ_len]))
  have HNL := Lib.hid (And.intro (show NL.length = 32 by rw [← hNL, nameL_len]; rfl) (And.intro (show ∀ u ∈ NL, u.oneCell' = true by rw [← hNL]; exact nameL_one) hNL))
  have HNA := Lib.hid (hNL ▸ name_any n HJ.out.2.2.2.1)
  have HGE := Lib.hid (fun W (k : keepBut [] w3 W) => hNL ▸ (HT3.out.over k).get (t := nameP n) (nameP_len n))
  have HINN : Hid ((Tryd.prog.info? 28).map (·.size) = some NL.length) := Lib.hid (by rw [HNL.out.1]; exact infoName)
  clear hZN hzn hNL
  go_upto_region 5 with (first
    | (go_at_call 22; refine (bring_any _ _ HX.out.n.1 HX.out.n.2 (by omega) (by omega) _).mono ?_; rintro e w' ⟨rfl, rfl⟩; rw [HJ.out.2.1])
    | (go_at_call 16; refine (HNA.out w3).mono ?_; rintro e w4 ⟨rfl, k4⟩; have K4 := Lib.hid k4; clear k4)
    | (refine wpList_alloc_to _ _ rfl 28 rfl _ HZN.out.1 (rfl : w4.alloc (.cells ZN.toArray 28) = _) ?_; have RZ := Lib.hid (rowAt.new w4 28 ZN.toArray); have KZ := Lib.hid ((keepBut.refl [] w4).alloc (.cells ZN.toArray 28)); obtain ⟨d, hd⟩ : ∃ d, w4.heap.size = d := ⟨_, rfl⟩; have HD := Lib.hid hd; rw [hd] at RZ ⊢; generalize w4.alloc (.cells ZN.toArray 28) = w5 at *; clear hd)
    | (refine wpList_store_mid rfl 28 (.tmp 8) (.tmp 39) rfl d 0 NL.toArray rfl rfl (RZ.out.there (by simp only [List.size_toArray]; rw [HNL.out.1, HZN.out.2]; omega)) (by rw [List.size_toArray]; exact HINN.out) (all_oneCell_toArray HNL.out.2.1) ?_))
  clear y2
  have r6 := RZ.out.setL (vs := NL) (o := 0)
  rw [putL_all (by simp only [List.size_toArray]; rw [HNL.out.1, HZN.out.2])] at r6
  have k6 := (keepBut.refl [d] w5).setL (vs := NL) (g := d) (o := 0) (.inl (by simp))
  try simp only [List.toList_toArray]
  generalize w5.setCells d 0 NL = w6 at *
  have k36 : keepBut [] w3 w6 := (K4.out.then KZ.out (by simp)).then k6 (fun x hx => by simp at hx; subst hx; right; have := HD.out; have := K4.out.size; omega)
  have K36 := Lib.hid k36
  have R6 := Lib.hid r6
  clear r6 k6 k36
  have HGG := Lib.hid (HGE.out w6 K36.out)
  go_upto_region 6 with (first
    | (refine wpList_load_mid rfl 28 (.tmp 8) rfl d 0 rfl NL _ R6.out.rangeAll Tryd.underlying28 rfl HINN.out ?_)
    | (go_at_call 9; refine HGG.out.mono ?_; rintro e w7 ⟨v7, G7, rfl, _, _, k7⟩; have K7 := Lib.hid k7; clear k7))
  have K37 := Lib.hid (K36.out.then K7.out (by simp))
  obtain ⟨B, hB⟩ : ∃ B, rqL (⟨j, m, 1 + x.kind % 4, 0, nameP n, []⟩ : RQ) nilV = B := ⟨_, rfl⟩
  have hbb : Tryd.prog.built 31 _ = some (rqL (⟨j, m, 1 + x.kind % 4, 0, nameP n, []⟩ : RQ) nilV).toArray := build_rq0124 (j : Int) m (1 + x.kind % 4) (nameP n) rfl
  rw [hB, HNL.out.2.2] at hbb
  have HBB := Lib.hid (And.intro (show B.length = 37 by rw [← hB]; exact rqL_len rfl) (And.intro (show ∀ u ∈ B, u.oneCell' = true by rw [← hB]; exact rqL_one _ rfl) (And.intro hB hbb)))
  clear hB hbb
  have HFS : Hid (∀ V, keepBut [] w7 V → V.cell? ⟨g, j, none⟩ = some (.int .i64 m) ∧ V.cell? ⟨b1, 1, none⟩ = some (.int .i64 x.kind) ∧ V.rangeAt d 0 NL) := Lib.hid (fun V k =>
    ⟨(((K37.out.then k (by simp)).row R3.out (by simp)).cell j).trans (by rw [List.getElem?_toArray, List.getElem?_map, HM.out.2]; rfl), ((K37.out.then k (by simp)).row R13.out (by simp)).cell 1, ((K7.out.then k (by simp)).row R6.out (by simp)).rangeAll⟩)
  have hw9 : IntKind.i64.wrap (1 + x.kind % 4) = 1 + x.kind % 4 := by rw [IntKind.wrap_i64]; omega
  have KS : keepBut [] w7 w7.drew := (keepBut.refl [] w7).drew
  refine wp_region_held_drew (S := fun V => keepBut [] w7 V) (by kernel_rfl) KS (fun _ => ?_)
  refine wpAnyH_take (i := 0) (oi := ⟨_, _, _, _, _, _⟩) (v := ?_) rfl (by kernel_rfl) (by kernel_rfl) (by kernel_rfl) (fun _ _ _ h => h) (Or.inl ⟨by rfl, ?_⟩) KS ?_
  rotate_left
  · intro w' hSw; (go_simp; try with_reducible rfl)
  try simp only [Act.put, List.setIfInBounds_toArray, List.set_cons_zero, List.set_cons_succ]
  refine wpAnyH_take (i := 1) (oi := ⟨_, _, _, _, _, _⟩) (v := ?_) rfl (by kernel_rfl) (by kernel_rfl) (by kernel_rfl) (fun _ _ _ h => h) (Or.inl ⟨by rfl, ?_⟩) KS ?_
  rotate_left
  · intro w' hSw; (go_simp; try with_reducible rfl)
  try simp only [Act.put, List.setIfInBounds_toArray, List.set_cons_zero, List.set_cons_succ]
  refine wpAnyH_take (i := 2) (oi := ⟨_, _, _, _, _, _⟩) (v := ?_) rfl (by kernel_rfl) (by kernel_rfl) (by kernel_rfl) (fun _ _ _ h => h) (Or.inl ⟨by rfl, ?_⟩) KS ?_
  rotate_left
  · intro w' hSw; (go_simp; try with_reducible rfl)
  try simp only [Act.put, List.setIfInBounds_toArray, List.set_cons_zero, List.set_cons_succ]
  refine wpAnyH_take (i := 3) (oi := ⟨_, _, _, _, _, _⟩) (v := ?_) rfl (by kernel_rfl) (by kernel_rfl) (by kernel_rfl) (fun _ _ _ h => h) (Or.inl ⟨by rfl, ?_⟩) KS ?_
  rotate_left
  · intro w' hSw; (go_simp; try with_reducible rfl)
  try simp only [Act.put, List.setIfInBounds_toArray, List.set_cons_zero, List.set_cons_succ]
  refine wpAnyH_take (i := 4) (oi := ⟨_, _, _, _, _, _⟩) (v := ?_) rfl (by kernel_rfl) (by kernel_rfl) (by kernel_rfl) (fun _ _ _ h => h) (Or.inl ⟨by rfl, ?_⟩) KS ?_
  rotate_left
  · intro w' hSw; (go_simp; try with_reducible rfl)
  try simp only [Act.put, List.setIfInBounds_toArray, List.set_cons_zero, List.set_cons_succ]
  refine wpAnyH_take (i := 5) (oi := ⟨_, _, _, _, _, _⟩) (v := ?_) rfl (by kernel_rfl) (by kernel_rfl) (by kernel_rfl) (fun _ _ _ h => h) (Or.inl ⟨by rfl, ?_⟩) KS ?_
  rotate_left
  · intro w' hSw; have hy := (HFS.out w' hSw).1; (go_simp; try with_reducible rfl)
  try simp only [Act.put, List.setIfInBounds_toArray, List.set_cons_zero, List.set_cons_succ]
  refine wpAnyH_take (i := 6) (oi := ⟨_, _, _, _, _, _⟩) (v := ?_) rfl (by kernel_rfl) (by kernel_rfl) (by kernel_rfl) (fun _ _ _ h => h) (Or.inl ⟨by rfl, ?_⟩) KS ?_
  rotate_left
  · intro w' hSw; (go_simp; try with_reducible rfl)
  try simp only [Act.put, List.setIfInBounds_toArray, List.set_cons_zero, List.set_cons_succ]
  refine wpAnyH_take (i := 7) (oi := ⟨_, _, _, _, _, _⟩) (v := ?_) rfl (by kernel_rfl) (by kernel_rfl) (by kernel_rfl) (fun _ _ _ h => h) (Or.inl ⟨by rfl, ?_⟩) KS ?_
  rotate_left
  · intro w' hSw; have hy := (HFS.out w' hSw).2.1; (go_simp; try with_reducible rfl)
  try simp only [Act.put, List.setIfInBounds_toArray, List.set_cons_zero, List.set_cons_succ]
  refine wpAnyH_take (i := 10) (oi := ⟨_, _, _, _, _, _⟩) (v := .agg (NL).toArray) rfl (by kernel_rfl) (by kernel_rfl) (by kernel_rfl) (fun _ _ _ h => h) (yieldsIf_mid 28 (.tmp 8) rfl d 0 rfl (NL) _ (fun w' hSw => (HFS.out w' hSw).2.2) Tryd.underlying28 rfl (HINN.out) ?_) KS ?_
  · rfl
  try simp only [Act.put, List.setIfInBounds_toArray, List.set_cons_zero, List.set_cons_succ]
  refine wpAnyH_ready (rs := [8, 12]) (by kernel_rfl) (by simp) ?_
  refine AllReadyH.cons (o := ⟨_, _, _, _, _, _⟩) rfl (fun K hK => ?_) (AllReadyH.cons (o := ⟨_, _, _, _, _, _⟩) rfl (fun K hK => ?_) AllReadyH.nil)
  focus (
    go_simp
    refine (bring_any _ _ HX.out.k.1 HX.out.k.2 (by omega) (by omega) _).mono ?_
    rintro e w8 ⟨rfl, rfl⟩
    go_wp2_with fail
    refine hK.out _ _ KS (fun _ => ?_)
    clear hK K
    try simp only [Act.put, List.setIfInBounds_toArray, List.set_cons_zero, List.set_cons_succ]
    refine wpAnyH_take (i := 9) (oi := ⟨_, _, _, _, _, _⟩) (v := ?_) rfl (by kernel_rfl) (by kernel_rfl) (by kernel_rfl) (fun _ _ _ h => h) (Or.inl ⟨by rfl, ?_⟩) KS ?_
    rotate_left
    · intro w' hSw; (go_simp; try with_reducible rfl)
    try simp only [Act.put, List.setIfInBounds_toArray, List.set_cons_zero, List.set_cons_succ]
    refine wpAnyH_take (i := 11) (oi := ⟨_, _, _, _, _, _⟩) (v := .agg B.toArray) rfl (by kernel_rfl) (by kernel_rfl) (by kernel_rfl) (fun _ _ _ h => h) (yieldsIf_build 31 _ rfl ?_ _ ?_) KS ?_
    · rfl
    · simp only [List.map_toArray, List.map_cons, List.map_nil]
      go_simp
      exact HBB.out.2.2.2
    try simp only [Act.put, List.setIfInBounds_toArray, List.set_cons_zero, List.set_cons_succ]
    refine wpAnyH_ready (rs := [12]) (by kernel_rfl) (by simp) ?_
    refine AllReadyH.cons (o := ⟨_, _, _, _, _, _⟩) rfl (fun K hK => ?_) AllReadyH.nil
    refine step_alloc_to _ _ rfl 31 rfl Z.toArray HZ.out.1 (rfl : w7.drew.alloc (.cells Z.toArray 31) = _) ?_
    refine hK.out _ _ (KS.alloc (.cells Z.toArray 31)) (fun _ => ?_)
    clear hK K
    try simp only [Act.put, List.setIfInBounds_toArray, List.set_cons_zero, List.set_cons_succ]
    have RQQ := Lib.hid (rowAt.new w7.drew 31 Z.toArray)
    have KA := Lib.hid (KS.alloc (.cells Z.toArray 31))
    obtain ⟨dr, hdr⟩ : ∃ d, w7.drew.heap.size = d := ⟨_, rfl⟩
    rw [hdr] at RQQ
    try rw [hdr]
    have HDR : Hid (w7.heap.size = dr) := Lib.hid hdr
    change w7.heap.size = dr at hdr
    try rw [hdr]
    clear hdr
    generalize w7.drew.alloc (.cells Z.toArray 31) = W at *)
  rotate_left
  focus (
    refine step_alloc_to _ _ rfl 31 rfl Z.toArray HZ.out.1 (rfl : w7.drew.alloc (.cells Z.toArray 31) = _) ?_
    refine hK.out _ _ (KS.alloc (.cells Z.toArray 31)) (fun _ => ?_)
    clear hK K
    try simp only [Act.put, List.setIfInBounds_toArray, List.set_cons_zero, List.set_cons_succ]
    have RQQ := Lib.hid (rowAt.new w7.drew 31 Z.toArray)
    have KA := Lib.hid (KS.alloc (.cells Z.toArray 31))
    obtain ⟨dr, hdr⟩ : ∃ d, w7.drew.heap.size = d := ⟨_, rfl⟩
    rw [hdr] at RQQ
    try rw [hdr]
    have HDR : Hid (w7.heap.size = dr) := Lib.hid hdr
    change w7.heap.size = dr at hdr
    try rw [hdr]
    clear hdr
    generalize w7.drew.alloc (.cells Z.toArray 31) = W at *
    refine wpAnyH_ready (rs := [8]) (by kernel_rfl) (by simp) ?_
    refine AllReadyH.cons (o := ⟨_, _, _, _, _, _⟩) rfl (fun K hK => ?_) AllReadyH.nil
    go_simp
    refine (bring_any _ _ HX.out.k.1 HX.out.k.2 (by omega) (by omega) _).mono ?_
    rintro e w8 ⟨rfl, rfl⟩
    go_wp2_with fail
    refine hK.out _ _ KA.out (fun _ => ?_)
    clear hK K
    try simp only [Act.put, List.setIfInBounds_toArray, List.set_cons_zero, List.set_cons_succ]
    refine wpAnyH_take (i := 9) (oi := ⟨_, _, _, _, _, _⟩) (v := ?_) rfl (by kernel_rfl) (by kernel_rfl) (by kernel_rfl) (fun _ _ _ h => h) (Or.inl ⟨by rfl, ?_⟩) KA.out ?_
    rotate_left
    · intro w' hSw; (go_simp; try with_reducible rfl)
    try simp only [Act.put, List.setIfInBounds_toArray, List.set_cons_zero, List.set_cons_succ]
    refine wpAnyH_take (i := 11) (oi := ⟨_, _, _, _, _, _⟩) (v := .agg B.toArray) rfl (by kernel_rfl) (by kernel_rfl) (by kernel_rfl) (fun _ _ _ h => h) (yieldsIf_build 31 _ rfl ?_ _ ?_) KA.out ?_
    · rfl
    · simp only [List.map_toArray, List.map_cons, List.map_nil]
      go_simp
      exact HBB.out.2.2.2
    try simp only [Act.put, List.setIfInBounds_toArray, List.set_cons_zero, List.set_cons_succ])
  all_goals (
    refine wpAnyH_ready (rs := [13]) (by kernel_rfl) (by simp) ?_
    refine AllReadyH.cons (o := ⟨_, _, _, _, _, _⟩) rfl (fun K hK => ?_) AllReadyH.nil
    refine step_store_mid rfl 31 (.tmp 11) (.tmp 57) rfl dr 0 B.toArray rfl rfl (RQQ.out.there (by simp only [List.size_toArray]; rw [HBB.out.1, HZ.out.2]; omega)) (by rw [List.size_toArray, HBB.out.1]; exact info_rq) (all_oneCell_toArray HBB.out.2.1) ?_
    refine hK.out _ _ (KA.out.setL (vs := B) (o := 0) (.inr (by have := HDR.out; omega))) (fun _ => ?_)
    clear hK K
    try simp only [Act.put, List.setIfInBounds_toArray, List.set_cons_zero, List.set_cons_succ]
    refine wpAnyH_done (by kernel_rfl) ?_ _
    have r8 := RQQ.out.setL (vs := B) (o := 0)
    rw [putL_all (by simp only [List.size_toArray]; rw [HBB.out.1, HZ.out.2])] at r8
    have k8 : keepBut [] w7 (W.setCells dr 0 B) := (KA.out.setL (vs := B) (o := 0) (.inr (by have := HDR.out; omega)))
    go_upto_region 7 with fail
    try simp only [List.toList_toArray]
    generalize W.setCells dr 0 B = w8 at *
    have K38 := Lib.hid (K37.out.then k8 (by simp))
    have R8 := Lib.hid r8
    clear r8 k8
    have y2 : w8.cell? ⟨dr, 2, none⟩ = some (.int .i64 (1 + x.kind % 4)) := (R8.out.cell 2).trans (by rw [← HBB.out.2.2.1]; rfl)
    have hkd := HKD.out
    go_upto_region 9 with fail
    clear y2 hkd hw9
    have y3 : w8.cell? ⟨b1, 3, none⟩ = some (.int .i64 x.above) := (K38.out.row R13.out (by simp)).cell 3
    have q3 : w8.cell? ⟨dr, 3, none⟩ = some (.int .i64 0) := (R8.out.cell 3).trans (by rw [← HBB.out.2.2.1]; rfl)
    have f3 := R8.out.free 3
    have hvv := HT3.out.fit.ver (nameP n)
    have hwv : IntKind.i64.wrap (P.ver (nameP n) + x.above % 3) = P.ver (nameP n) + x.above % 3 := by rw [IntKind.wrap_i64]; omega
    have hmx : (if (1 : Int) < P.ver (nameP n) + x.above % 3 then P.ver (nameP n) + x.above % 3 else 1) = max 1 (P.ver (nameP n) + x.above % 3) := by split <;> omega
    go_upto_region 10 with (go_at_call 22; refine (bring_any _ _ HX.out.a.1 HX.out.a.2 (by omega) (by omega) _).mono ?_; rintro e w' ⟨rfl, rfl⟩)
    try rw [hmx]
    have r9 := R8.out.set 3 (.int .i64 (max 1 (P.ver (nameP n) + x.above % 3)))
    have k9 := (kset w8 dr 3 (.int .i64 (max 1 (P.ver (nameP n) + x.above % 3))))
    generalize w8.setCell ⟨dr, 3, none⟩ (.int .i64 (max 1 (P.ver (nameP n) + x.above % 3))) = w9 at *
    have hdn := HDR.out
    have hs37 := K37.out.size
    have k39 : keepBut [] w3 w9 := K38.out.then k9 (fun y hy => by simp at hy; subst hy; right; omega)
    have K39x := Lib.hid k39
    have R9x := Lib.hid r9
    clear y3 q3 f3 hvv hwv hmx r9 k9 k39
    have y0 : w9.cell? ⟨b1, 0, none⟩ = some (.int .i64 x.client) := (K39x.out.row R13.out (by simp)).cell 0
    have y3 : w9.cell? ⟨b1, 3, none⟩ = some (.int .i64 x.above) := (K39x.out.row R13.out (by simp)).cell 3
    obtain ⟨C0, hC0⟩ : ∃ C, rqL (⟨j, m, 1 + x.kind % 4, max 1 (P.ver (nameP n) + x.above % 3), nameP n, []⟩ : RQ) nilV = C := ⟨_, rfl⟩
    have R9y : Hid (rowAt w9 dr 31 C0.toArray) := Lib.hid (by rw [← hC0]; have q := R9x.out; rw [← HBB.out.2.2.1, rqL_setVer] at q; exact q)
    have HC0 := Lib.hid hC0
    clear hC0 R9x
    go_upto_region 14 with (first
    | (go_at_call 17; refine (env_any _ _).mono ?_; rintro e w10 ⟨v9, G9, rfl, n9⟩; obtain ⟨A9, c9, g9, rfl, _⟩ := id n9.1; have N9 := Lib.hid n9; clear n9; have R9z := Lib.hid (N9.out.2.2.row R9y.out (by simp)); have q36 : w10.cell? ⟨dr, 36, none⟩ = some (.slice none 0 0) := (R9z.out.cell 36).trans (by rw [← HC0.out]; rfl); have f36 := R9z.out.free 36))
    have r11 := R9z.out.set 36 (.slice A9 (envP (wrap64 (x.client + x.above))).length c9)
    have k11 := kset w10 dr 36 (.slice A9 (envP (wrap64 (x.client + x.above))).length c9)
    generalize w10.setCell ⟨dr, 36, none⟩ (.slice A9 (envP (wrap64 (x.client + x.above))).length c9) = wF at *
    rw [← HC0.out, rqL_setEnv (l := envP (wrap64 (x.client + x.above))) rfl] at r11
    have R9 := Lib.hid r11
    have hdn := HDR.out
    have hs37 := K37.out.size
    have hs7 := R8.out.lt
    have K39 := Lib.hid ((K39x.out.then N9.out.2.2 (by simp)).then k11 (fun y hy => by simp at hy; subst hy; right; omega))
    have s9 := K39x.out.size
    have s11 := k11.size
    have hGn : ∀ y ∈ G9, w3.heap.size ≤ y ∧ y < wF.heap.size := fun y hy => by have h1 := N9.out.2.1 y hy; exact ⟨by omega, by omega⟩
    have hGd : ∀ y ∈ G9, y ∉ [dr] := fun y hy => by have h1 := (N9.out.2.1 y hy).1; have h2 := R9y.out.lt; simp; omega
    have HE9 := Lib.hid (N9.out.1.keep k11 hGd)
    have HEN := Lib.hid hGn
    clear q36 f36 r11 k11 y0 y3 hGn hGd s9 s11 hdn hs37 hs7
    obtain ⟨C, hC⟩ : ∃ C, rqL (⟨(j : Int), m, 1 + x.kind % 4, max 1 (P.ver (nameP n) + x.above % 3), nameP n, envP (wrap64 (x.client + x.above))⟩ : RQ) (.slice A9 (envP (wrap64 (x.client + x.above))).length c9) = C := ⟨_, rfl⟩
    have R9c : Hid (rowAt wF dr 31 C.toArray) := Lib.hid (by rw [← hC]; first | exact R9.out | (rw [HBB.out.2.2.1]; exact R9.out))
    have HC := Lib.hid (And.intro (show C.length = 37 by rw [← hC]; exact rqL_len rfl) (And.intro (show ∀ u ∈ C, u.oneCell' = true by rw [← hC]; exact rqL_one _ HE9.out.one) hC))
    clear hC
    have R2c := Lib.hid (K39.out.row R23.out (by simp))
    go_wp2_with (first
      | (refine wpList_load_mid rfl 31 (.tmp 11) rfl dr 0 rfl C _ R9c.out.rangeAll Tryd.underlying31 rfl (by rw [HC.out.1]; exact info_rq) ?_)
      | (refine wpList_store_mid rfl 31 (.tmp 6) (.tmp 89) rfl b2 0 C.toArray rfl rfl (R2c.out.there (by simp only [List.size_toArray]; rw [HC.out.1, HZ.out.2]; omega)) (by rw [List.size_toArray, HC.out.1]; exact info_rq) (all_oneCell_toArray HC.out.2.1) ?_))
    all_goals (
      have rz := R2c.out.setL (vs := C) (o := 0)
      rw [putL_all (by simp only [List.size_toArray]; rw [HC.out.1, HZ.out.2])] at rz
      have kz := (keepBut.refl [b2] wF).setL (vs := C) (g := b2) (o := 0) (.inl (by simp))
      refine bodyPost_ret (results_cell_row rfl _ _ b2 31 _ (0, 0) _ rfl rz Tryd.underlying31 rfl (by rw [List.size_toArray, HC.out.1]; exact info_rq)) rfl ?_
      have hmp : madeP P x ns = ⟨(j : Int), m, 1 + x.kind % 4, max 1 (P.ver (nameP n) + x.above % 3), nameP n, envP (wrap64 (x.client + x.above))⟩ := by
        unfold madeP
        rw [HL.out.2.1, HL.out.2.2.1, HM.out.1]
        rw [if_pos HKD.out]
      rw [show madePost w0 N p g P x ns w = madePost w0 N p g P x ns w from rfl]
      have hb := HB.out
      have hs3 : w.heap.size ≤ w3.heap.size := by have h1 := K12.out.size; have h2 := K3.out.size; omega
      have kf : keepBut [g] w (wF.setCells b2 0 C) := (((K12.out.more (by simp)).then K3.out (fun y hy => .inl hy)).then K39.out (by simp)).then kz (fun y hy => by simp at hy; subst hy; right; omega)
      have hGb : ∀ y ∈ G9, y ∉ [b2] := fun y hy => by have h1 := (HEN.out y hy).1; have h2 := R23.out.lt; simp; omega
      unfold madePost
      rw [hmp]
      refine ⟨(.slice A9 (envP (wrap64 (x.client + x.above))).length c9), G9, by rw [HC.out.2.2], ⟨rfl, HE9.out.keep kz hGb⟩, fun y hy => ⟨by have := (HEN.out y hy).1; omega, by have h1 := (HEN.out y hy).2; have h2 := kz.size; omega⟩, kz.row (K39.out.row R3.out (by simp)) (by simp; omega), H00.out.poke kf (fun y hy => by simp at hy; subst hy; exact ⟨HN.out.1.1, HN.out.1.2, _, _, RG0.out, by decide⟩), kf⟩))
set_option maxHeartbeats 8000000 in
theorem made_f4 (w0 : World) (N : List Nat) (w : World) (p g : Nat) (P : PT) (x : ASK) (ns : List Int) (h : lawT w0 N w p P) (hx : x.ok) (hl : ns.length = 3) (hg : rowAt w g 26 (ns.map (Value.int .i64)).toArray) (hN : g ∈ N ∧ w0.heap.size ≤ g) (hb : ∀ j, 0 ≤ numAt ns j ∧ numAt ns j ≤ 1000000)
    (hc : x.again = false) (hk : 1 + x.kind % 4 = 4) :
    Calls Tryd.prog 8 #[.pointer (some ⟨p, 0, none⟩), .agg (askL x).toArray, .pointer (some ⟨g, 0, none⟩)] w (madePost w0 N p g P x ns w) := by
  obtain ⟨hj, hjc⟩ := c3_lt x
  obtain ⟨hn, hnc⟩ := n6_lt x
  obtain ⟨j, hj0⟩ : ∃ j, x.c3 = j := ⟨_, rfl⟩
  obtain ⟨n, hn0⟩ : ∃ n, x.n6 = n := ⟨_, rfl⟩
  obtain ⟨k, hk0⟩ : ∃ k, numAt ns j = k := ⟨_, rfl⟩
  rw [hj0] at hj hjc
  try rw [hj0] at hc
  rw [hn0] at hn hnc
  try rw [hk0] at hc
  have hkb := hb j
  rw [hk0] at hkb
  have hget := numAt_get hl hj
  rw [hk0] at hget
  obtain ⟨w1, hw1⟩ : ∃ w1, w.alloc (.cells #[.int .i64 x.client, .int .i64 x.kind, .int .i64 x.name, .int .i64 x.above, .bool x.again] 34) = w1 := ⟨_, rfl⟩
  obtain ⟨Z, hZ⟩ : ∃ Z, rqL rqZero nilV = Z := ⟨_, rfl⟩
  have hz := zv_rq
  rw [hZ] at hz
  have hZl : Z.length = 37 := by rw [← hZ]; exact rqZ_len
  obtain ⟨w2, hw2⟩ : ∃ w2, w1.alloc (.cells Z.toArray 31) = w2 := ⟨_, rfl⟩
  obtain ⟨b1, hb1⟩ : ∃ b1, w.heap.size = b1 := ⟨_, rfl⟩
  obtain ⟨b2, hb2⟩ : ∃ b2, w1.heap.size = b2 := ⟨_, rfl⟩
  have r1 : rowAt w1 b1 34 #[.int .i64 x.client, .int .i64 x.kind, .int .i64 x.name, .int .i64 x.above, .bool x.again] := hb1 ▸ hw1 ▸ rowAt.new _ _ _
  have k1 : keepBut [] w w1 := hw1 ▸ (keepBut.refl [] w).alloc _
  have r2 : rowAt w2 b2 31 Z.toArray := hb2 ▸ hw2 ▸ rowAt.new _ _ _
  have k2 : keepBut [] w1 w2 := hw2 ▸ (keepBut.refl [] w1).alloc _
  have k12 := k1.then k2 (by simp)
  have hlt : b1 < b2 := hb2 ▸ r1.lt
  have hgl := hg.lt
  have HW1 := Lib.hid hw1
  have HW2 := Lib.hid hw2
  have HB := Lib.hid (And.intro hb1 (And.intro hb2 (And.intro hlt (show g < b1 by rw [← hb1]; exact hgl))))
  have R1 := Lib.hid (k2.row r1 (by simp))
  have R2 := Lib.hid r2
  have K12 := Lib.hid k12
  have RG := Lib.hid (k12.row hg (by simp))
  have HT := Lib.hid (h.over k12)
  have H00 := Lib.hid h
  have RG0 := Lib.hid hg
  have HZ := Lib.hid (And.intro hz hZl)
  have HX := Lib.hid hx
  have HL := Lib.hid (And.intro hl (And.intro hj0 (And.intro hn0 hk0)))
  have HN := Lib.hid (And.intro hN hb)
  have HJ := Lib.hid (And.intro hjc (And.intro hnc (And.intro hj (And.intro hn hkb))))
  have HC := Lib.hid hc
  have HKD := Lib.hid hk
  have HGT := Lib.hid hget
  have bj : (j : Int) < 3 := by omega
  clear hw1 hw2 hb1 hb2 r1 r2 k1 k2 k12 hz hZ hZl hg h hx hl hj0 hn0 hk0 hN hb hjc hnc hlt hgl hc hk hget
  go_enter Tryd.func8, Tryd.ntmps8
  go_upto_region 1 with (first
    | (with_reducible refine wpList_box_to _ _ rfl 34 (.tmp 1) rfl _ rfl HW1.out ?_; rw [HB.out.1])
    | (with_reducible refine wpList_alloc_to _ _ rfl 31 rfl _ HZ.out.1 HW2.out ?_; rw [HB.out.2.1]))
  have y0 : w2.cell? ⟨b1, 0, none⟩ = some (.int .i64 x.client) := R1.out.cell 0
  have y4 : w2.cell? ⟨b1, 4, none⟩ = some (.bool x.again) := R1.out.cell 4
  have yg : w2.cell? ⟨g, j, none⟩ = some (.int .i64 k) := (RG.out.cell j).trans (by rw [List.getElem?_toArray, List.getElem?_map, HGT.out]; rfl)
  have fg := RG.out.free j
  have hca := HC.out
  go_upto_region 2 with (go_at_call 22; refine (bring_any _ _ HX.out.c.1 HX.out.c.2 (by omega) (by omega) _).mono ?_; rintro e w' ⟨rfl, rfl⟩; rw [HJ.out.1])
  go_upto_region 3 with fail
  have hw1 : IntKind.i64.wrap (k + 1) = k + 1 := by rw [IntKind.wrap_i64]; have := HJ.out.2.2.2.2; omega
  go_region
  go_upto_region 4 with fail
  have hns : numsP x ns = ns.set j (k + 1) := by
    unfold numsP
    rw [HL.out.2.1, HL.out.2.2.2]
    rw [if_pos (.inl HC.out)]
  have r3 := RG.out.set j (.int .i64 (k + 1))
  rw [show (ns.map (Value.int .i64)).toArray.setIfInBounds j (.int .i64 (k + 1)) = ((numsP x ns).map (Value.int .i64)).toArray by rw [hns, List.map_set, List.setIfInBounds_toArray]] at r3
  have k3 := (kset w2 g j (.int .i64 (k + 1))).drew
  have r3 : rowAt (w2.setCell ⟨g, j, none⟩ (.int .i64 (k + 1))).drew g 26 ((numsP x ns).map (Value.int .i64)).toArray := r3
  generalize (w2.setCell ⟨g, j, none⟩ (.int .i64 (k + 1))).drew = w3 at *
  clear hns hw1
  clear y0 y4 yg fg
  obtain ⟨m, hm⟩ : ∃ m, numAt (numsP x ns) j = m := ⟨_, rfl⟩
  have hgm := numAt_get (numsP_len (x := x) HL.out.1) HJ.out.2.2.1
  rw [hm] at hgm
  have R3 := Lib.hid r3
  have K3 := Lib.hid k3
  have HM := Lib.hid (And.intro hm hgm)
  have HT3 := Lib.hid (HT.out.poke k3 (fun y hy => by simp at hy; subst hy; exact ⟨HN.out.1.1, HN.out.1.2, _, _, RG.out, by decide⟩))
  have R13 := Lib.hid (k3.row R1.out (by have := HB.out.2.2.2; simp; omega))
  have R23 := Lib.hid (k3.row R2.out (by have := HB.out.2.2; simp; omega))
  clear r3 k3 hm hgm
  have y2 : w3.cell? ⟨b1, 2, none⟩ = some (.int .i64 x.name) := R13.out.cell 2
  obtain ⟨ZN, hZN⟩ : ∃ Z, nameL nameZ = Z := ⟨_, rfl⟩
  have hzn := zv_nm
  rw [hZN] at hzn
  obtain ⟨NL, hNL⟩ : ∃ NL, nameL (nameP n) = NL := ⟨_, rfl⟩
  have HZN := Lib.hid (And.intro hzn (show ZN.length = 32 by rw [← hZN, nameL_len, nameZ_len]))
  have HNL := Lib.hid (And.intro (show NL.length = 32 by rw [← hNL, nameL_len]; rfl) (And.intro (show ∀ u ∈ NL, u.oneCell' = true by rw [← hNL]; exact nameL_one) hNL))
  have HNA := Lib.hid (hNL ▸ name_any n HJ.out.2.2.2.1)
  have HGE := Lib.hid (fun W (k : keepBut [] w3 W) => hNL ▸ (HT3.out.over k).get (t := nameP n) (nameP_len n))
  have HINN : Hid ((Tryd.prog.info? 28).map (·.size) = some NL.length) := Lib.hid (by rw [HNL.out.1]; exact infoName)
  clear hZN hzn hNL
  go_upto_region 5 with (first
    | (go_at_call 22; refine (bring_any _ _ HX.out.n.1 HX.out.n.2 (by omega) (by omega) _).mono ?_; rintro e w' ⟨rfl, rfl⟩; rw [HJ.out.2.1])
    | (go_at_call 16; refine (HNA.out w3).mono ?_; rintro e w4 ⟨rfl, k4⟩; have K4 := Lib.hid k4; clear k4)
    | (refine wpList_alloc_to _ _ rfl 28 rfl _ HZN.out.1 (rfl : w4.alloc (.cells ZN.toArray 28) = _) ?_; have RZ := Lib.hid (rowAt.new w4 28 ZN.toArray); have KZ := Lib.hid ((keepBut.refl [] w4).alloc (.cells ZN.toArray 28)); obtain ⟨d, hd⟩ : ∃ d, w4.heap.size = d := ⟨_, rfl⟩; have HD := Lib.hid hd; rw [hd] at RZ ⊢; generalize w4.alloc (.cells ZN.toArray 28) = w5 at *; clear hd)
    | (refine wpList_store_mid rfl 28 (.tmp 8) (.tmp 39) rfl d 0 NL.toArray rfl rfl (RZ.out.there (by simp only [List.size_toArray]; rw [HNL.out.1, HZN.out.2]; omega)) (by rw [List.size_toArray]; exact HINN.out) (all_oneCell_toArray HNL.out.2.1) ?_))
  clear y2
  have r6 := RZ.out.setL (vs := NL) (o := 0)
  rw [putL_all (by simp only [List.size_toArray]; rw [HNL.out.1, HZN.out.2])] at r6
  have k6 := (keepBut.refl [d] w5).setL (vs := NL) (g := d) (o := 0) (.inl (by simp))
  try simp only [List.toList_toArray]
  generalize w5.setCells d 0 NL = w6 at *
  have k36 : keepBut [] w3 w6 := (K4.out.then KZ.out (by simp)).then k6 (fun x hx => by simp at hx; subst hx; right; have := HD.out; have := K4.out.size; omega)
  have K36 := Lib.hid k36
  have R6 := Lib.hid r6
  clear r6 k6 k36
  have HGG := Lib.hid (HGE.out w6 K36.out)
  go_upto_region 6 with (first
    | (refine wpList_load_mid rfl 28 (.tmp 8) rfl d 0 rfl NL _ R6.out.rangeAll Tryd.underlying28 rfl HINN.out ?_)
    | (go_at_call 9; refine HGG.out.mono ?_; rintro e w7 ⟨v7, G7, rfl, _, _, k7⟩; have K7 := Lib.hid k7; clear k7))
  have K37 := Lib.hid (K36.out.then K7.out (by simp))
  obtain ⟨B, hB⟩ : ∃ B, rqL (⟨j, m, 1 + x.kind % 4, 0, nameP n, []⟩ : RQ) nilV = B := ⟨_, rfl⟩
  have hbb : Tryd.prog.built 31 _ = some (rqL (⟨j, m, 1 + x.kind % 4, 0, nameP n, []⟩ : RQ) nilV).toArray := build_rq0124 (j : Int) m (1 + x.kind % 4) (nameP n) rfl
  rw [hB, HNL.out.2.2] at hbb
  have HBB := Lib.hid (And.intro (show B.length = 37 by rw [← hB]; exact rqL_len rfl) (And.intro (show ∀ u ∈ B, u.oneCell' = true by rw [← hB]; exact rqL_one _ rfl) (And.intro hB hbb)))
  clear hB hbb
  have HFS : Hid (∀ V, keepBut [] w7 V → V.cell? ⟨g, j, none⟩ = some (.int .i64 m) ∧ V.cell? ⟨b1, 1, none⟩ = some (.int .i64 x.kind) ∧ V.rangeAt d 0 NL) := Lib.hid (fun V k =>
    ⟨(((K37.out.then k (by simp)).row R3.out (by simp)).cell j).trans (by rw [List.getElem?_toArray, List.getElem?_map, HM.out.2]; rfl), ((K37.out.then k (by simp)).row R13.out (by simp)).cell 1, ((K7.out.then k (by simp)).row R6.out (by simp)).rangeAll⟩)
  have hw9 : IntKind.i64.wrap (1 + x.kind % 4) = 1 + x.kind % 4 := by rw [IntKind.wrap_i64]; omega
  have KS : keepBut [] w7 w7.drew := (keepBut.refl [] w7).drew
  refine wp_region_held_drew (S := fun V => keepBut [] w7 V) (by kernel_rfl) KS (fun _ => ?_)
  refine wpAnyH_take (i := 0) (oi := ⟨_, _, _, _, _, _⟩) (v := ?_) rfl (by kernel_rfl) (by kernel_rfl) (by kernel_rfl) (fun _ _ _ h => h) (Or.inl ⟨by rfl, ?_⟩) KS ?_
  rotate_left
  · intro w' hSw; (go_simp; try with_reducible rfl)
  try simp only [Act.put, List.setIfInBounds_toArray, List.set_cons_zero, List.set_cons_succ]
  refine wpAnyH_take (i := 1) (oi := ⟨_, _, _, _, _, _⟩) (v := ?_) rfl (by kernel_rfl) (by kernel_rfl) (by kernel_rfl) (fun _ _ _ h => h) (Or.inl ⟨by rfl, ?_⟩) KS ?_
  rotate_left
  · intro w' hSw; (go_simp; try with_reducible rfl)
  try simp only [Act.put, List.setIfInBounds_toArray, List.set_cons_zero, List.set_cons_succ]
  refine wpAnyH_take (i := 2) (oi := ⟨_, _, _, _, _, _⟩) (v := ?_) rfl (by kernel_rfl) (by kernel_rfl) (by kernel_rfl) (fun _ _ _ h => h) (Or.inl ⟨by rfl, ?_⟩) KS ?_
  rotate_left
  · intro w' hSw; (go_simp; try with_reducible rfl)
  try simp only [Act.put, List.setIfInBounds_toArray, List.set_cons_zero, List.set_cons_succ]
  refine wpAnyH_take (i := 3) (oi := ⟨_, _, _, _, _, _⟩) (v := ?_) rfl (by kernel_rfl) (by kernel_rfl) (by kernel_rfl) (fun _ _ _ h => h) (Or.inl ⟨by rfl, ?_⟩) KS ?_
  rotate_left
  · intro w' hSw; (go_simp; try with_reducible rfl)
  try simp only [Act.put, List.setIfInBounds_toArray, List.set_cons_zero, List.set_cons_succ]
  refine wpAnyH_take (i := 4) (oi := ⟨_, _, _, _, _, _⟩) (v := ?_) rfl (by kernel_rfl) (by kernel_rfl) (by kernel_rfl) (fun _ _ _ h => h) (Or.inl ⟨by rfl, ?_⟩) KS ?_
  rotate_left
  · intro w' hSw; (go_simp; try with_reducible rfl)
  try simp only [Act.put, List.setIfInBounds_toArray, List.set_cons_zero, List.set_cons_succ]
  refine wpAnyH_take (i := 5) (oi := ⟨_, _, _, _, _, _⟩) (v := ?_) rfl (by kernel_rfl) (by kernel_rfl) (by kernel_rfl) (fun _ _ _ h => h) (Or.inl ⟨by rfl, ?_⟩) KS ?_
  rotate_left
  · intro w' hSw; have hy := (HFS.out w' hSw).1; (go_simp; try with_reducible rfl)
  try simp only [Act.put, List.setIfInBounds_toArray, List.set_cons_zero, List.set_cons_succ]
  refine wpAnyH_take (i := 6) (oi := ⟨_, _, _, _, _, _⟩) (v := ?_) rfl (by kernel_rfl) (by kernel_rfl) (by kernel_rfl) (fun _ _ _ h => h) (Or.inl ⟨by rfl, ?_⟩) KS ?_
  rotate_left
  · intro w' hSw; (go_simp; try with_reducible rfl)
  try simp only [Act.put, List.setIfInBounds_toArray, List.set_cons_zero, List.set_cons_succ]
  refine wpAnyH_take (i := 7) (oi := ⟨_, _, _, _, _, _⟩) (v := ?_) rfl (by kernel_rfl) (by kernel_rfl) (by kernel_rfl) (fun _ _ _ h => h) (Or.inl ⟨by rfl, ?_⟩) KS ?_
  rotate_left
  · intro w' hSw; have hy := (HFS.out w' hSw).2.1; (go_simp; try with_reducible rfl)
  try simp only [Act.put, List.setIfInBounds_toArray, List.set_cons_zero, List.set_cons_succ]
  refine wpAnyH_take (i := 10) (oi := ⟨_, _, _, _, _, _⟩) (v := .agg (NL).toArray) rfl (by kernel_rfl) (by kernel_rfl) (by kernel_rfl) (fun _ _ _ h => h) (yieldsIf_mid 28 (.tmp 8) rfl d 0 rfl (NL) _ (fun w' hSw => (HFS.out w' hSw).2.2) Tryd.underlying28 rfl (HINN.out) ?_) KS ?_
  · rfl
  try simp only [Act.put, List.setIfInBounds_toArray, List.set_cons_zero, List.set_cons_succ]
  refine wpAnyH_ready (rs := [8, 12]) (by kernel_rfl) (by simp) ?_
  refine AllReadyH.cons (o := ⟨_, _, _, _, _, _⟩) rfl (fun K hK => ?_) (AllReadyH.cons (o := ⟨_, _, _, _, _, _⟩) rfl (fun K hK => ?_) AllReadyH.nil)
  focus (
    go_simp
    refine (bring_any _ _ HX.out.k.1 HX.out.k.2 (by omega) (by omega) _).mono ?_
    rintro e w8 ⟨rfl, rfl⟩
    go_wp2_with fail
    refine hK.out _ _ KS (fun _ => ?_)
    clear hK K
    try simp only [Act.put, List.setIfInBounds_toArray, List.set_cons_zero, List.set_cons_succ]
    refine wpAnyH_take (i := 9) (oi := ⟨_, _, _, _, _, _⟩) (v := ?_) rfl (by kernel_rfl) (by kernel_rfl) (by kernel_rfl) (fun _ _ _ h => h) (Or.inl ⟨by rfl, ?_⟩) KS ?_
    rotate_left
    · intro w' hSw; (go_simp; try with_reducible rfl)
    try simp only [Act.put, List.setIfInBounds_toArray, List.set_cons_zero, List.set_cons_succ]
    refine wpAnyH_take (i := 11) (oi := ⟨_, _, _, _, _, _⟩) (v := .agg B.toArray) rfl (by kernel_rfl) (by kernel_rfl) (by kernel_rfl) (fun _ _ _ h => h) (yieldsIf_build 31 _ rfl ?_ _ ?_) KS ?_
    · rfl
    · simp only [List.map_toArray, List.map_cons, List.map_nil]
      go_simp
      exact HBB.out.2.2.2
    try simp only [Act.put, List.setIfInBounds_toArray, List.set_cons_zero, List.set_cons_succ]
    refine wpAnyH_ready (rs := [12]) (by kernel_rfl) (by simp) ?_
    refine AllReadyH.cons (o := ⟨_, _, _, _, _, _⟩) rfl (fun K hK => ?_) AllReadyH.nil
    refine step_alloc_to _ _ rfl 31 rfl Z.toArray HZ.out.1 (rfl : w7.drew.alloc (.cells Z.toArray 31) = _) ?_
    refine hK.out _ _ (KS.alloc (.cells Z.toArray 31)) (fun _ => ?_)
    clear hK K
    try simp only [Act.put, List.setIfInBounds_toArray, List.set_cons_zero, List.set_cons_succ]
    have RQQ := Lib.hid (rowAt.new w7.drew 31 Z.toArray)
    have KA := Lib.hid (KS.alloc (.cells Z.toArray 31))
    obtain ⟨dr, hdr⟩ : ∃ d, w7.drew.heap.size = d := ⟨_, rfl⟩
    rw [hdr] at RQQ
    try rw [hdr]
    have HDR : Hid (w7.heap.size = dr) := Lib.hid hdr
    change w7.heap.size = dr at hdr
    try rw [hdr]
    clear hdr
    generalize w7.drew.alloc (.cells Z.toArray 31) = W at *)
  rotate_left
  focus (
    refine step_alloc_to _ _ rfl 31 rfl Z.toArray HZ.out.1 (rfl : w7.drew.alloc (.cells Z.toArray 31) = _) ?_
    refine hK.out _ _ (KS.alloc (.cells Z.toArray 31)) (fun _ => ?_)
    clear hK K
    try simp only [Act.put, List.setIfInBounds_toArray, List.set_cons_zero, List.set_cons_succ]
    have RQQ := Lib.hid (rowAt.new w7.drew 31 Z.toArray)
    have KA := Lib.hid (KS.alloc (.cells Z.toArray 31))
    obtain ⟨dr, hdr⟩ : ∃ d, w7.drew.heap.size = d := ⟨_, rfl⟩
    rw [hdr] at RQQ
    try rw [hdr]
    have HDR : Hid (w7.heap.size = dr) := Lib.hid hdr
    change w7.heap.size = dr at hdr
    try rw [hdr]
    clear hdr
    generalize w7.drew.alloc (.cells Z.toArray 31) = W at *
    refine wpAnyH_ready (rs := [8]) (by kernel_rfl) (by simp) ?_
    refine AllReadyH.cons (o := ⟨_, _, _, _, _, _⟩) rfl (fun K hK => ?_) AllReadyH.nil
    go_simp
    refine (bring_any _ _ HX.out.k.1 HX.out.k.2 (by omega) (by omega) _).mono ?_
    rintro e w8 ⟨rfl, rfl⟩
    go_wp2_with fail
    refine hK.out _ _ KA.out (fun _ => ?_)
    clear hK K
    try simp only [Act.put, List.setIfInBounds_toArray, List.set_cons_zero, List.set_cons_succ]
    refine wpAnyH_take (i := 9) (oi := ⟨_, _, _, _, _, _⟩) (v := ?_) rfl (by kernel_rfl) (by kernel_rfl) (by kernel_rfl) (fun _ _ _ h => h) (Or.inl ⟨by rfl, ?_⟩) KA.out ?_
    rotate_left
    · intro w' hSw; (go_simp; try with_reducible rfl)
    try simp only [Act.put, List.setIfInBounds_toArray, List.set_cons_zero, List.set_cons_succ]
    refine wpAnyH_take (i := 11) (oi := ⟨_, _, _, _, _, _⟩) (v := .agg B.toArray) rfl (by kernel_rfl) (by kernel_rfl) (by kernel_rfl) (fun _ _ _ h => h) (yieldsIf_build 31 _ rfl ?_ _ ?_) KA.out ?_
    · rfl
    · simp only [List.map_toArray, List.map_cons, List.map_nil]
      go_simp
      exact HBB.out.2.2.2
    try simp only [Act.put, List.setIfInBounds_toArray, List.set_cons_zero, List.set_cons_succ])
  all_goals (
    refine wpAnyH_ready (rs := [13]) (by kernel_rfl) (by simp) ?_
    refine AllReadyH.cons (o := ⟨_, _, _, _, _, _⟩) rfl (fun K hK => ?_) AllReadyH.nil
    refine step_store_mid rfl 31 (.tmp 11) (.tmp 57) rfl dr 0 B.toArray rfl rfl (RQQ.out.there (by simp only [List.size_toArray]; rw [HBB.out.1, HZ.out.2]; omega)) (by rw [List.size_toArray, HBB.out.1]; exact info_rq) (all_oneCell_toArray HBB.out.2.1) ?_
    refine hK.out _ _ (KA.out.setL (vs := B) (o := 0) (.inr (by have := HDR.out; omega))) (fun _ => ?_)
    clear hK K
    try simp only [Act.put, List.setIfInBounds_toArray, List.set_cons_zero, List.set_cons_succ]
    refine wpAnyH_done (by kernel_rfl) ?_ _
    have r8 := RQQ.out.setL (vs := B) (o := 0)
    rw [putL_all (by simp only [List.size_toArray]; rw [HBB.out.1, HZ.out.2])] at r8
    have k8 : keepBut [] w7 (W.setCells dr 0 B) := (KA.out.setL (vs := B) (o := 0) (.inr (by have := HDR.out; omega)))
    go_upto_region 7 with fail
    try simp only [List.toList_toArray]
    generalize W.setCells dr 0 B = w8 at *
    have K38 := Lib.hid (K37.out.then k8 (by simp))
    have R8 := Lib.hid r8
    clear r8 k8
    have y2 : w8.cell? ⟨dr, 2, none⟩ = some (.int .i64 (1 + x.kind % 4)) := (R8.out.cell 2).trans (by rw [← HBB.out.2.2.1]; rfl)
    have hkd := HKD.out
    go_upto_region 12 with fail
    clear y2 hkd hw9
    go_upto_region 13 with (refine wpList_store_mid rfl 28 (.tmp 79) (.tmp 78) rfl dr 4 (nameL nameZ).toArray rfl rfl (R8.out.there (by simp only [List.size_toArray]; rw [HBB.out.1, nameL_len, nameZ_len]; omega)) (by rw [List.size_toArray, nameL_len, nameZ_len]; exact infoName) (all_oneCell_toArray nameL_one) ?_)
    have r9 := R8.out.setL (vs := nameL nameZ) (o := 4)
    rw [← HBB.out.2.2.1, rqL_setName rfl nameZ_len] at r9
    have k9 := (keepBut.refl [dr] w8).setL (vs := nameL nameZ) (g := dr) (o := 4) (.inl (by simp))
    try simp only [List.toList_toArray]
    generalize w8.setCells dr 4 (nameL nameZ) = w9 at *
    have hdn := HDR.out
    have hs37 := K37.out.size
    have k39 : keepBut [] w3 w9 := K38.out.then k9 (fun y hy => by simp at hy; subst hy; right; omega)
    have K39x := Lib.hid k39
    have R9y := Lib.hid r9
    clear r9 k9 k39
    have hep := HT3.out.fit.ep
    have hwe : IntKind.i64.wrap (P.epoch + x.above % 3) = P.epoch + x.above % 3 := by rw [IntKind.wrap_i64]; omega
    have hb1d : b1 ∉ [dr] := by have h1 := HB.out.2.2.1; have h2 := R23.out.lt; simp; omega
    have HFS2 : Hid (∀ V, keepBut [dr] w9 V → V.cell? ⟨b1, 3, none⟩ = some (.int .i64 x.above)) := Lib.hid (fun V k => (k.row (K39x.out.row R13.out (by simp)) hb1d).cell 3)
    clear hb1d
    have KE9 : keepBut [] w9 w9.drew := (keepBut.refl [] w9).drew
    have KS9 : keepBut [dr] w9 w9.drew := (keepBut.refl [dr] w9).drew
    refine wp_region_held_drew (S := fun V => keepBut [dr] w9 V) (by kernel_rfl) KS9 (fun _ => ?_)
    refine wpAnyH_take (i := 0) (oi := ⟨_, _, _, _, _, _⟩) (v := ?_) rfl (by kernel_rfl) (by kernel_rfl) (by kernel_rfl) (fun _ _ _ h => h) (Or.inl ⟨by rfl, ?_⟩) KS9 ?_
    rotate_left
    · intro w' hSw; (go_simp; try with_reducible rfl)
    try simp only [Act.put, List.setIfInBounds_toArray, List.set_cons_zero, List.set_cons_succ]
    refine wpAnyH_take (i := 2) (oi := ⟨_, _, _, _, _, _⟩) (v := ?_) rfl (by kernel_rfl) (by kernel_rfl) (by kernel_rfl) (fun _ _ _ h => h) (Or.inl ⟨by rfl, ?_⟩) KS9 ?_
    rotate_left
    · intro w' hSw; (go_simp; try with_reducible rfl)
    try simp only [Act.put, List.setIfInBounds_toArray, List.set_cons_zero, List.set_cons_succ]
    refine wpAnyH_take (i := 3) (oi := ⟨_, _, _, _, _, _⟩) (v := ?_) rfl (by kernel_rfl) (by kernel_rfl) (by kernel_rfl) (fun _ _ _ h => h) (Or.inl ⟨by rfl, ?_⟩) KS9 ?_
    rotate_left
    · intro w' hSw; have hy := HFS2.out w' hSw; (go_simp; try with_reducible rfl)
    try simp only [Act.put, List.setIfInBounds_toArray, List.set_cons_zero, List.set_cons_succ]
    refine wpAnyH_ready (rs := [1]) (by kernel_rfl) (by simp) ?_
    refine AllReadyH.cons (o := ⟨_, _, _, _, _, _⟩) rfl (fun K hK => ?_) AllReadyH.nil
    go_simp
    refine ((HT3.out.over (K39x.out.then KE9 (by simp))).epoch rfl).mono ?_
    rintro e wa ⟨rfl, rfl⟩
    go_wp2_with fail
    refine hK.out _ _ KS9 (fun _ => ?_)
    clear hK K
    try simp only [Act.put, List.setIfInBounds_toArray, List.set_cons_zero, List.set_cons_succ]
    refine wpAnyH_ready (rs := [4]) (by kernel_rfl) (by simp) ?_
    refine AllReadyH.cons (o := ⟨_, _, _, _, _, _⟩) rfl (fun K hK => ?_) AllReadyH.nil
    go_simp
    refine (bring_any _ _ HX.out.a.1 HX.out.a.2 (by omega) (by omega) _).mono ?_
    rintro e wa ⟨rfl, rfl⟩
    go_wp2_with fail
    refine hK.out _ _ KS9 (fun _ => ?_)
    clear hK K
    try simp only [Act.put, List.setIfInBounds_toArray, List.set_cons_zero, List.set_cons_succ]
    refine wpAnyH_take (i := 5) (oi := ⟨_, _, _, _, _, _⟩) (v := ?_) rfl (by kernel_rfl) (by kernel_rfl) (by kernel_rfl) (fun _ _ _ h => h) (Or.inl ⟨by rfl, ?_⟩) KS9 ?_
    rotate_left
    · intro w' hSw; (go_simp; try with_reducible rfl)
    try simp only [Act.put, List.setIfInBounds_toArray, List.set_cons_zero, List.set_cons_succ]
    refine wpAnyH_take (i := 6) (oi := ⟨_, _, _, _, _, _⟩) (v := ?_) rfl (by kernel_rfl) (by kernel_rfl) (by kernel_rfl) (fun _ _ _ h => h) (Or.inl ⟨by rfl, ?_⟩) KS9 ?_
    rotate_left
    · intro w' hSw; (go_simp; try with_reducible rfl)
    try simp only [Act.put, List.setIfInBounds_toArray, List.set_cons_zero, List.set_cons_succ]
    refine wpAnyH_take (i := 7) (oi := ⟨_, _, _, _, _, _⟩) (v := ?_) rfl (by kernel_rfl) (by kernel_rfl) (by kernel_rfl) (fun _ _ _ h => h) (Or.inl ⟨by rfl, ?_⟩) KS9 ?_
    rotate_left
    · intro w' hSw; (go_simp; try with_reducible rfl)
    try simp only [Act.put, List.setIfInBounds_toArray, List.set_cons_zero, List.set_cons_succ]
    refine wpAnyH_take (i := 8) (oi := ⟨_, _, _, _, _, _⟩) (v := ?_) rfl (by kernel_rfl) (by kernel_rfl) (by kernel_rfl) (fun _ _ _ h => h) (Or.inl ⟨by rfl, ?_⟩) KS9 ?_
    rotate_left
    · intro w' hSw; (go_simp; try with_reducible rfl)
    try simp only [Act.put, List.setIfInBounds_toArray, List.set_cons_zero, List.set_cons_succ]
    have q3 : w9.drew.cell? ⟨dr, 3, none⟩ = some (.int .i64 0) := R9y.out.cell 3
    have f3 : w9.drew.frozen? ⟨dr, 3, none⟩ = false := R9y.out.free 3
    refine wpAnyH_ready (rs := [9]) (by kernel_rfl) (by simp) ?_
    refine AllReadyH.cons (o := ⟨_, _, _, _, _, _⟩) rfl (fun K hK => ?_) AllReadyH.nil
    go_simp
    have hmx : (if (1 : Int) < (if P.epoch + x.above % 3 < 255 then P.epoch + x.above % 3 else 255) then (if P.epoch + x.above % 3 < 255 then P.epoch + x.above % 3 else 255) else 1) = max 1 (min 255 (P.epoch + x.above % 3)) := by split <;> split <;> omega
    try rw [hmx]
    refine hK.out _ _ (((keepBut.refl [dr] w9).setCell ⟨dr, 3, none⟩ (.int .i64 (max 1 (min 255 (P.epoch + x.above % 3)))) (.inl (by simp))).drew) (fun _ => ?_)
    clear hK K
    try simp only [Act.put, List.setIfInBounds_toArray, List.set_cons_zero, List.set_cons_succ]
    refine wpAnyH_done (by kernel_rfl) ?_ _
    go_upto_region 14 with fail
    clear q3 f3 hmx hep hwe
    have r11 : rowAt (w9.setCell ⟨dr, 3, none⟩ (.int .i64 (max 1 (min 255 (P.epoch + x.above % 3))))).drew dr 31 (rqL (⟨j, m, 1 + x.kind % 4, (max 1 (min 255 (P.epoch + x.above % 3))), nameZ, []⟩ : RQ) nilV).toArray := by
      have q := R9y.out.set 3 (.int .i64 (max 1 (min 255 (P.epoch + x.above % 3))))
      rw [rqL_setVer] at q
      exact q
    have k11 := (kset w9 dr 3 (.int .i64 (max 1 (min 255 (P.epoch + x.above % 3))))).drew
    generalize (w9.setCell ⟨dr, 3, none⟩ (.int .i64 (max 1 (min 255 (P.epoch + x.above % 3))))).drew = wF at *
    have hd0 : w3.heap.size ≤ dr := by have := HDR.out; have := K37.out.size; omega
    have K39 := Lib.hid (K39x.out.then k11 (fun y hy => by simp at hy; subst hy; exact .inr hd0))
    have R9 := Lib.hid r11
    have HE9 : Hid (bytesV wF [] nilV []) := Lib.hid (bytesV.nil _ _)
    have HEN : Hid (newIn w3 wF []) := Lib.hid (fun y hy => by simp at hy)
    clear r11 k11 hd0
    obtain ⟨C, hC⟩ : ∃ C, rqL (⟨(j : Int), m, 1 + x.kind % 4, max 1 (min 255 (P.epoch + x.above % 3)), nameZ, []⟩ : RQ) nilV = C := ⟨_, rfl⟩
    have R9c : Hid (rowAt wF dr 31 C.toArray) := Lib.hid (by rw [← hC]; first | exact R9.out | (rw [HBB.out.2.2.1]; exact R9.out))
    have HC := Lib.hid (And.intro (show C.length = 37 by rw [← hC]; exact rqL_len rfl) (And.intro (show ∀ u ∈ C, u.oneCell' = true by rw [← hC]; exact rqL_one _ HE9.out.one) hC))
    clear hC
    have R2c := Lib.hid (K39.out.row R23.out (by simp))
    go_wp2_with (first
      | (refine wpList_load_mid rfl 31 (.tmp 11) rfl dr 0 rfl C _ R9c.out.rangeAll Tryd.underlying31 rfl (by rw [HC.out.1]; exact info_rq) ?_)
      | (refine wpList_store_mid rfl 31 (.tmp 6) (.tmp 89) rfl b2 0 C.toArray rfl rfl (R2c.out.there (by simp only [List.size_toArray]; rw [HC.out.1, HZ.out.2]; omega)) (by rw [List.size_toArray, HC.out.1]; exact info_rq) (all_oneCell_toArray HC.out.2.1) ?_))
    all_goals (
      have rz := R2c.out.setL (vs := C) (o := 0)
      rw [putL_all (by simp only [List.size_toArray]; rw [HC.out.1, HZ.out.2])] at rz
      have kz := (keepBut.refl [b2] wF).setL (vs := C) (g := b2) (o := 0) (.inl (by simp))
      refine bodyPost_ret (results_cell_row rfl _ _ b2 31 _ (0, 0) _ rfl rz Tryd.underlying31 rfl (by rw [List.size_toArray, HC.out.1]; exact info_rq)) rfl ?_
      have hmp : madeP P x ns = ⟨(j : Int), m, 1 + x.kind % 4, max 1 (min 255 (P.epoch + x.above % 3)), nameZ, []⟩ := by
        unfold madeP
        rw [HL.out.2.1, HL.out.2.2.1, HM.out.1]
        rw [if_neg (by rw [HKD.out]; decide), if_pos HKD.out]
      rw [show madePost w0 N p g P x ns w = madePost w0 N p g P x ns w from rfl]
      have hb := HB.out
      have hs3 : w.heap.size ≤ w3.heap.size := by have h1 := K12.out.size; have h2 := K3.out.size; omega
      have kf : keepBut [g] w (wF.setCells b2 0 C) := (((K12.out.more (by simp)).then K3.out (fun y hy => .inl hy)).then K39.out (by simp)).then kz (fun y hy => by simp at hy; subst hy; right; omega)
      have hGb : ∀ y ∈ ([] : List Nat), y ∉ [b2] := fun y hy => by have h1 := (HEN.out y hy).1; have h2 := R23.out.lt; simp; omega
      unfold madePost
      rw [hmp]
      refine ⟨nilV, [], by rw [HC.out.2.2], ⟨rfl, HE9.out.keep kz hGb⟩, fun y hy => ⟨by have := (HEN.out y hy).1; omega, by have h1 := (HEN.out y hy).2; have h2 := kz.size; omega⟩, kz.row (K39.out.row R3.out (by simp)) (by simp; omega), H00.out.poke kf (fun y hy => by simp at hy; subst hy; exact ⟨HN.out.1.1, HN.out.1.2, _, _, RG0.out, by decide⟩), kf⟩))
end Go.Proofs.YtmlmhnhilemjhaaDoor
