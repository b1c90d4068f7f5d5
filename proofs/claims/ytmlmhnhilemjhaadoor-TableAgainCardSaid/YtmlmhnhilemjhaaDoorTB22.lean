/-
  TABLE, 22: the first name behind one (after).
-/
import Derived.Test.YtmlmhnhilemjhaaDoorTB21
namespace Go.Proofs.YtmlmhnhilemjhaaDoor
open Go.RowKit
set_option linter.unusedVariables false
set_option maxRecDepth 100000
set_option linter.unusedSimpArgs false

theorem zv_nm : (Tryd.prog.info? 28).bind (·.zero) = some (.agg (nameL nameZ).toArray) := by kernel_rfl
def nextI (s : TS) (t : List UInt8) : Nat := posN s t + (if hitN s t = true then 1 else 0)
def afterN (s : TS) (t : List UInt8) : Option (List UInt8) := s.names[nextI s t]?
def afterC (s : TS) (t : List UInt8) : List UInt8 := match afterN s t with | some n => n | none => nameZ
theorem isT.kAt {w : World} {p : Nat} {s : TS} (h : isT w p s) {i : Nat} {n : List UInt8} (hi : s.names[i]? = some n) :
    ∃ g c, s.kv = .slice (some ⟨g, 0, none⟩) s.names.length c ∧ w.rangeAt g (i * 32) (nameL n) := by
  have hlt := (List.getElem?_eq_some_iff.1 hi).1
  rcases h.kown.2 with ⟨_, h0⟩ | ⟨g, cap, cur, he, hr, h1, h2, h3, h4⟩
  · omega
  · exact ⟨g, cap, he, fun j u hu => (hr.cell _).trans (take_at h4 (flatN_at _ _ _ h.names hi j u hu))⟩
set_option maxHeartbeats 8000000 in
theorem after_ne (p : Nat) (s : TS) (t : List UInt8) (ht : t.length = 32) (w : World) (h : isT w p s) (hh : hitN s t = false) (hn : afterN s t = none) :
    Calls Tryd.prog 66 #[.pointer (some ⟨p, 1, none⟩), .agg (nameL t).toArray] w fun e w' => e = .returned (.tuple #[.agg (nameL nameZ).toArray, .bool false]) ∧ keepBut [] w w' := by
  have hnx : nextI s t = (posN s t) := by unfold nextI; rw [hh]; simp
  unfold afterN at hn
  rw [hnx] at hn
  obtain ⟨w1, hw1⟩ : ∃ w1, w.alloc (.cells (nameL t).toArray 28) = w1 := ⟨_, rfl⟩
  have r1 : rowAt w1 w.heap.size 28 (nameL t).toArray := hw1 ▸ rowAt.new _ _ _
  have k1 : keepBut [] w w1 := hw1 ▸ (keepBut.refl [] w).alloc _
  obtain ⟨Z, hZ⟩ : ∃ Z, nameL nameZ = Z := ⟨_, rfl⟩
  have hz := zv_nm
  rw [hZ] at hz ⊢
  have hZl : Z.length = 32 := by rw [← hZ, nameL_len, nameZ_len]
  have hZ1 : ∀ u ∈ Z, u.oneCell' = true := by rw [← hZ]; exact nameL_one
  have HZ := Lib.hid (And.intro hz (And.intro hZl hZ1))
  clear hz hZl hZ1 hZ
  obtain ⟨w2, hw2⟩ : ∃ w2, w1.alloc (.cells Z.toArray 28) = w2 := ⟨_, rfl⟩
  have r2 : rowAt w2 w1.heap.size 28 Z.toArray := hw2 ▸ rowAt.new _ _ _
  have k2 : keepBut [] w1 w2 := hw2 ▸ (keepBut.refl [] w1).alloc _
  obtain ⟨w3, hw3⟩ : ∃ w3, w2.alloc (.cells Z.toArray 28) = w3 := ⟨_, rfl⟩
  have r3 : rowAt w3 w2.heap.size 28 Z.toArray := hw3 ▸ rowAt.new _ _ _
  have k3 : keepBut [] w2 w3 := hw3 ▸ (keepBut.refl [] w2).alloc _
  have k13 := (k1.then k2 (by simp)).then k3 (by simp)
  have HR1 := Lib.hid (((k2.then k3 (by simp)).row r1 (by simp)).rangeAll)
  have HR2 := Lib.hid (k3.row r2 (by simp))
  have HR3 := Lib.hid r3
  have HW1 := Lib.hid hw1
  have HW2 := Lib.hid hw2
  have HW3 := Lib.hid hw3
  have HK := Lib.hid (And.intro k13 k1.size)
  have HT := Lib.hid (h.over k13)
  have HH := Lib.hid hh
  have HA := Lib.hid ht
  obtain ⟨A, c, hgv, _⟩ := h.kown.form
  have hle0 : posN s t ≤ s.names.length := posOf_le _ _
  have hge := List.getElem?_eq_none_iff.1 hn
  have hle : posN s t = s.names.length := by omega
  have HX := Lib.hid (And.intro hgv trivial)
  clear hgv hge hle0
  have hsm := h.small
  clear hw1 hw2 hw3 k1 k2 k3 k13 r1 r2 r3 h hh ht hn hnx
  go_enter Tryd.func66, Tryd.ntmps66
  go_upto_region 3 with (first
    | (with_reducible refine wpList_box_to _ _ rfl 28 (.tmp 1) rfl _ rfl HW1.out ?_)
    | (with_reducible refine wpList_alloc_to _ _ rfl 28 rfl _ HZ.out.1 HW2.out ?_)
    | (with_reducible refine wpList_alloc_to _ _ rfl 28 rfl _ HZ.out.1 HW3.out ?_)
    | (refine wpList_load_mid rfl 28 (.tmp 3) rfl w.heap.size 0 rfl (nameL t) _ HR1.out Tryd.underlying28 rfl (by rw [nameL_len, HA.out]; exact infoName) ?_)
    | (go_at_call 46; refine (findN_any p s t HA.out _ HT.out).mono ?_; rintro e w4 ⟨rfl, kk⟩; rw [HH.out]; have K4 := Lib.hid kk; clear kk))
  have r2 := K4.out.row HR2.out (by simp)
  have RS := Lib.hid (r2.there (o := 0) (n := Z.toArray.size) (by simp only [List.size_toArray]; rw [HZ.out.2.1]; omega))
  have hy := (HT.out.over K4.out).row.cell 2
  replace hy : w4.cell? ⟨p, 2, none⟩ = some (.slice A s.names.length c) := by rw [hy]; exact congrArg some HX.out.1
  generalize posN s t = i at *
  have hw : IntKind.i64.wrap ((i : Int) + 1) = (i : Int) + 1 := by rw [IntKind.wrap_i64]; omega
  have RL := Lib.hid ((K4.out.row HR3.out (by simp)).rangeAll)
  generalize s.names.length = N at *
  subst hle
  go_wp2_with (first
    | (refine wpList_load_mid rfl 28 (.tmp 6) rfl w2.heap.size 0 rfl Z _ RL.out Tryd.underlying28 rfl (by rw [HZ.out.2.1]; exact infoName) ?_)
    | (refine wpList_store_mid rfl 28 (.tmp 4) (.tmp 25) rfl w1.heap.size 0 Z.toArray rfl rfl RS.out (by rw [List.size_toArray, HZ.out.2.1]; exact infoName) (all_oneCell_toArray HZ.out.2.2) ?_))
  have r5 := r2.setL (vs := Z) (o := 0)
  rw [putL_all (by simp only [List.size_toArray])] at r5
  have k5 := (keepBut.refl [w1.heap.size] w4).setL (vs := Z) (g := w1.heap.size) (o := 0) (.inl (by simp))
  refine bodyPost_ret (results_row_tmp rfl _ _ w1.heap.size 28 _ (0, 0) _ rfl r5 Tryd.underlying28 rfl (by rw [List.size_toArray, HZ.out.2.1]; exact infoName)) rfl ?_
  exact ⟨rfl, (HK.out.1.then K4.out (by simp)).then k5 (fun y hy => by simp at hy; subst hy; exact .inr HK.out.2)⟩
set_option maxHeartbeats 8000000 in
theorem after_ye (p : Nat) (s : TS) (t : List UInt8) (ht : t.length = 32) (w : World) (h : isT w p s) (hh : hitN s t = true) (hn : afterN s t = none) :
    Calls Tryd.prog 66 #[.pointer (some ⟨p, 1, none⟩), .agg (nameL t).toArray] w fun e w' => e = .returned (.tuple #[.agg (nameL nameZ).toArray, .bool false]) ∧ keepBut [] w w' := by
  have hnx : nextI s t = (posN s t + 1) := by unfold nextI; rw [hh]; simp
  unfold afterN at hn
  rw [hnx] at hn
  obtain ⟨w1, hw1⟩ : ∃ w1, w.alloc (.cells (nameL t).toArray 28) = w1 := ⟨_, rfl⟩
  have r1 : rowAt w1 w.heap.size 28 (nameL t).toArray := hw1 ▸ rowAt.new _ _ _
  have k1 : keepBut [] w w1 := hw1 ▸ (keepBut.refl [] w).alloc _
  obtain ⟨Z, hZ⟩ : ∃ Z, nameL nameZ = Z := ⟨_, rfl⟩
  have hz := zv_nm
  rw [hZ] at hz ⊢
  have hZl : Z.length = 32 := by rw [← hZ, nameL_len, nameZ_len]
  have hZ1 : ∀ u ∈ Z, u.oneCell' = true := by rw [← hZ]; exact nameL_one
  have HZ := Lib.hid (And.intro hz (And.intro hZl hZ1))
  clear hz hZl hZ1 hZ
  obtain ⟨w2, hw2⟩ : ∃ w2, w1.alloc (.cells Z.toArray 28) = w2 := ⟨_, rfl⟩
  have r2 : rowAt w2 w1.heap.size 28 Z.toArray := hw2 ▸ rowAt.new _ _ _
  have k2 : keepBut [] w1 w2 := hw2 ▸ (keepBut.refl [] w1).alloc _
  obtain ⟨w3, hw3⟩ : ∃ w3, w2.alloc (.cells Z.toArray 28) = w3 := ⟨_, rfl⟩
  have r3 : rowAt w3 w2.heap.size 28 Z.toArray := hw3 ▸ rowAt.new _ _ _
  have k3 : keepBut [] w2 w3 := hw3 ▸ (keepBut.refl [] w2).alloc _
  have k13 := (k1.then k2 (by simp)).then k3 (by simp)
  have HR1 := Lib.hid (((k2.then k3 (by simp)).row r1 (by simp)).rangeAll)
  have HR2 := Lib.hid (k3.row r2 (by simp))
  have HR3 := Lib.hid r3
  have HW1 := Lib.hid hw1
  have HW2 := Lib.hid hw2
  have HW3 := Lib.hid hw3
  have HK := Lib.hid (And.intro k13 k1.size)
  have HT := Lib.hid (h.over k13)
  have HH := Lib.hid hh
  have HA := Lib.hid ht
  obtain ⟨A, c, hgv, _⟩ := h.kown.form
  have hle0 : posN s t ≤ s.names.length := posOf_le _ _
  have hge := List.getElem?_eq_none_iff.1 hn
  have hle : posN s t + 1 = s.names.length := by
    obtain ⟨b, hb, _⟩ := hitN_at hh
    have := (List.getElem?_eq_some_iff.1 hb).1
    have hl : s.names.length = s.objs.length := by simp [TS.names]
    omega
  have HX := Lib.hid (And.intro hgv trivial)
  clear hgv hge hle0
  have hsm := h.small
  clear hw1 hw2 hw3 k1 k2 k3 k13 r1 r2 r3 h hh ht hn hnx
  go_enter Tryd.func66, Tryd.ntmps66
  go_upto_region 3 with (first
    | (with_reducible refine wpList_box_to _ _ rfl 28 (.tmp 1) rfl _ rfl HW1.out ?_)
    | (with_reducible refine wpList_alloc_to _ _ rfl 28 rfl _ HZ.out.1 HW2.out ?_)
    | (with_reducible refine wpList_alloc_to _ _ rfl 28 rfl _ HZ.out.1 HW3.out ?_)
    | (refine wpList_load_mid rfl 28 (.tmp 3) rfl w.heap.size 0 rfl (nameL t) _ HR1.out Tryd.underlying28 rfl (by rw [nameL_len, HA.out]; exact infoName) ?_)
    | (go_at_call 46; refine (findN_any p s t HA.out _ HT.out).mono ?_; rintro e w4 ⟨rfl, kk⟩; rw [HH.out]; have K4 := Lib.hid kk; clear kk))
  have r2 := K4.out.row HR2.out (by simp)
  have RS := Lib.hid (r2.there (o := 0) (n := Z.toArray.size) (by simp only [List.size_toArray]; rw [HZ.out.2.1]; omega))
  have hy := (HT.out.over K4.out).row.cell 2
  replace hy : w4.cell? ⟨p, 2, none⟩ = some (.slice A s.names.length c) := by rw [hy]; exact congrArg some HX.out.1
  generalize posN s t = i at *
  have hw : IntKind.i64.wrap ((i : Int) + 1) = (i : Int) + 1 := by rw [IntKind.wrap_i64]; omega
  have RL := Lib.hid ((K4.out.row HR3.out (by simp)).rangeAll)
  generalize s.names.length = N at *
  subst hle
  go_wp2_with (first
    | (refine wpList_load_mid rfl 28 (.tmp 6) rfl w2.heap.size 0 rfl Z _ RL.out Tryd.underlying28 rfl (by rw [HZ.out.2.1]; exact infoName) ?_)
    | (refine wpList_store_mid rfl 28 (.tmp 4) (.tmp 25) rfl w1.heap.size 0 Z.toArray rfl rfl RS.out (by rw [List.size_toArray, HZ.out.2.1]; exact infoName) (all_oneCell_toArray HZ.out.2.2) ?_))
  have r5 := r2.setL (vs := Z) (o := 0)
  rw [putL_all (by simp only [List.size_toArray])] at r5
  have k5 := (keepBut.refl [w1.heap.size] w4).setL (vs := Z) (g := w1.heap.size) (o := 0) (.inl (by simp))
  refine bodyPost_ret (results_row_tmp rfl _ _ w1.heap.size 28 _ (0, 0) _ rfl r5 Tryd.underlying28 rfl (by rw [List.size_toArray, HZ.out.2.1]; exact infoName)) rfl ?_
  exact ⟨rfl, (HK.out.1.then K4.out (by simp)).then k5 (fun y hy => by simp at hy; subst hy; exact .inr HK.out.2)⟩
set_option maxHeartbeats 8000000 in
theorem after_nm (p : Nat) (s : TS) (t : List UInt8) (ht : t.length = 32) (w : World) (h : isT w p s) (hh : hitN s t = false) (n : List UInt8) (hn : afterN s t = some n) :
    Calls Tryd.prog 66 #[.pointer (some ⟨p, 1, none⟩), .agg (nameL t).toArray] w fun e w' => e = .returned (.tuple #[.agg (nameL n).toArray, .bool true]) ∧ keepBut [] w w' := by
  have hnx : nextI s t = (posN s t) := by unfold nextI; rw [hh]; simp
  unfold afterN at hn
  rw [hnx] at hn
  obtain ⟨w1, hw1⟩ : ∃ w1, w.alloc (.cells (nameL t).toArray 28) = w1 := ⟨_, rfl⟩
  have r1 : rowAt w1 w.heap.size 28 (nameL t).toArray := hw1 ▸ rowAt.new _ _ _
  have k1 : keepBut [] w w1 := hw1 ▸ (keepBut.refl [] w).alloc _
  obtain ⟨Z, hZ⟩ : ∃ Z, nameL nameZ = Z := ⟨_, rfl⟩
  have hz := zv_nm
  rw [hZ] at hz
  have hZl : Z.length = 32 := by rw [← hZ, nameL_len, nameZ_len]
  have hZ1 : ∀ u ∈ Z, u.oneCell' = true := by rw [← hZ]; exact nameL_one
  have HZ := Lib.hid (And.intro hz (And.intro hZl hZ1))
  clear hz hZl hZ1 hZ
  obtain ⟨w2, hw2⟩ : ∃ w2, w1.alloc (.cells Z.toArray 28) = w2 := ⟨_, rfl⟩
  have r2 : rowAt w2 w1.heap.size 28 Z.toArray := hw2 ▸ rowAt.new _ _ _
  have k2 : keepBut [] w1 w2 := hw2 ▸ (keepBut.refl [] w1).alloc _
  obtain ⟨w3, hw3⟩ : ∃ w3, w2.alloc (.cells Z.toArray 28) = w3 := ⟨_, rfl⟩
  have r3 : rowAt w3 w2.heap.size 28 Z.toArray := hw3 ▸ rowAt.new _ _ _
  have k3 : keepBut [] w2 w3 := hw3 ▸ (keepBut.refl [] w2).alloc _
  have k13 := (k1.then k2 (by simp)).then k3 (by simp)
  have HR1 := Lib.hid (((k2.then k3 (by simp)).row r1 (by simp)).rangeAll)
  have HR2 := Lib.hid (k3.row r2 (by simp))
  have HR3 := Lib.hid r3
  have HW1 := Lib.hid hw1
  have HW2 := Lib.hid hw2
  have HW3 := Lib.hid hw3
  have HK := Lib.hid (And.intro k13 k1.size)
  have HT := Lib.hid (h.over k13)
  have HH := Lib.hid hh
  have HA := Lib.hid ht
  obtain ⟨g, c, hgv, hrg⟩ := h.kAt hn
  have hlt := (List.getElem?_eq_some_iff.1 hn).1
  have hnl := h.names n (List.mem_of_getElem? hn)
  have HX := Lib.hid (And.intro hgv (And.intro hrg hnl))
  have hle := hlt
  clear hgv hrg hnl hlt
  have hsm := h.small
  clear hw1 hw2 hw3 k1 k2 k3 k13 r1 r2 r3 h hh ht hn hnx
  go_enter Tryd.func66, Tryd.ntmps66
  go_upto_region 3 with (first
    | (with_reducible refine wpList_box_to _ _ rfl 28 (.tmp 1) rfl _ rfl HW1.out ?_)
    | (with_reducible refine wpList_alloc_to _ _ rfl 28 rfl _ HZ.out.1 HW2.out ?_)
    | (with_reducible refine wpList_alloc_to _ _ rfl 28 rfl _ HZ.out.1 HW3.out ?_)
    | (refine wpList_load_mid rfl 28 (.tmp 3) rfl w.heap.size 0 rfl (nameL t) _ HR1.out Tryd.underlying28 rfl (by rw [nameL_len, HA.out]; exact infoName) ?_)
    | (go_at_call 46; refine (findN_any p s t HA.out _ HT.out).mono ?_; rintro e w4 ⟨rfl, kk⟩; rw [HH.out]; have K4 := Lib.hid kk; clear kk))
  have r2 := K4.out.row HR2.out (by simp)
  have RS := Lib.hid (r2.there (o := 0) (n := (nameL n).toArray.size) (by simp only [List.size_toArray]; rw [HZ.out.2.1, nameL_len, HX.out.2.2]; omega))
  have hy := (HT.out.over K4.out).row.cell 2
  replace hy : w4.cell? ⟨p, 2, none⟩ = some (.slice (some ⟨g, 0, none⟩) s.names.length c) := by rw [hy]; exact congrArg some HX.out.1
  generalize posN s t = i at *
  have hw : IntKind.i64.wrap ((i : Int) + 1) = (i : Int) + 1 := by rw [IntKind.wrap_i64]; omega
  have b1 : ((i : Int)) < (s.names.length : Int) := by omega
  have he : ¬ ((i : Int)) = (s.names.length : Int) := by omega
  have b0 : (0 : Int) ≤ (i : Int) + 1 := by omega
  have htn : ((i : Int) + 1).toNat = i + 1 := by omega
  have RL := Lib.hid (show w4.rangeAt g (i * 32) (nameL n) from rangeAt.keep HX.out.2.1 (HK.out.1.then K4.out (by simp)) (by simp))
  generalize s.names.length = N at *
  go_wp2_with (first
    | (refine wpList_load_mid rfl 28 (.tmp 31) rfl g (i * 32) (by simp [Act.eval, Act.put]) (nameL n) _ RL.out Tryd.underlying28 rfl (by rw [nameL_len, HX.out.2.2]; exact infoName) ?_)
    | (refine wpList_store_mid rfl 28 (.tmp 4) (.tmp 32) rfl w1.heap.size 0 (nameL n).toArray rfl rfl RS.out (by rw [List.size_toArray, nameL_len, HX.out.2.2]; exact infoName) (all_oneCell_toArray nameL_one) ?_))
  have r5 := r2.setL (vs := (nameL n)) (o := 0)
  rw [putL_all (by simp only [List.size_toArray]; rw [nameL_len, HX.out.2.2, HZ.out.2.1])] at r5
  have k5 := (keepBut.refl [w1.heap.size] w4).setL (vs := (nameL n)) (g := w1.heap.size) (o := 0) (.inl (by simp))
  refine bodyPost_ret (results_row_tmp rfl _ _ w1.heap.size 28 _ (0, 0) _ rfl r5 Tryd.underlying28 rfl (by rw [List.size_toArray, nameL_len, HX.out.2.2]; exact infoName)) rfl ?_
  exact ⟨rfl, (HK.out.1.then K4.out (by simp)).then k5 (fun y hy => by simp at hy; subst hy; exact .inr HK.out.2)⟩
set_option maxHeartbeats 8000000 in
theorem after_ym (p : Nat) (s : TS) (t : List UInt8) (ht : t.length = 32) (w : World) (h : isT w p s) (hh : hitN s t = true) (n : List UInt8) (hn : afterN s t = some n) :
    Calls Tryd.prog 66 #[.pointer (some ⟨p, 1, none⟩), .agg (nameL t).toArray] w fun e w' => e = .returned (.tuple #[.agg (nameL n).toArray, .bool true]) ∧ keepBut [] w w' := by
  have hnx : nextI s t = (posN s t + 1) := by unfold nextI; rw [hh]; simp
  unfold afterN at hn
  rw [hnx] at hn
  obtain ⟨w1, hw1⟩ : ∃ w1, w.alloc (.cells (nameL t).toArray 28) = w1 := ⟨_, rfl⟩
  have r1 : rowAt w1 w.heap.size 28 (nameL t).toArray := hw1 ▸ rowAt.new _ _ _
  have k1 : keepBut [] w w1 := hw1 ▸ (keepBut.refl [] w).alloc _
  obtain ⟨Z, hZ⟩ : ∃ Z, nameL nameZ = Z := ⟨_, rfl⟩
  have hz := zv_nm
  rw [hZ] at hz
  have hZl : Z.length = 32 := by rw [← hZ, nameL_len, nameZ_len]
  have hZ1 : ∀ u ∈ Z, u.oneCell' = true := by rw [← hZ]; exact nameL_one
  have HZ := Lib.hid (And.intro hz (And.intro hZl hZ1))
  clear hz hZl hZ1 hZ
  obtain ⟨w2, hw2⟩ : ∃ w2, w1.alloc (.cells Z.toArray 28) = w2 := ⟨_, rfl⟩
  have r2 : rowAt w2 w1.heap.size 28 Z.toArray := hw2 ▸ rowAt.new _ _ _
  have k2 : keepBut [] w1 w2 := hw2 ▸ (keepBut.refl [] w1).alloc _
  obtain ⟨w3, hw3⟩ : ∃ w3, w2.alloc (.cells Z.toArray 28) = w3 := ⟨_, rfl⟩
  have r3 : rowAt w3 w2.heap.size 28 Z.toArray := hw3 ▸ rowAt.new _ _ _
  have k3 : keepBut [] w2 w3 := hw3 ▸ (keepBut.refl [] w2).alloc _
  have k13 := (k1.then k2 (by simp)).then k3 (by simp)
  have HR1 := Lib.hid (((k2.then k3 (by simp)).row r1 (by simp)).rangeAll)
  have HR2 := Lib.hid (k3.row r2 (by simp))
  have HR3 := Lib.hid r3
  have HW1 := Lib.hid hw1
  have HW2 := Lib.hid hw2
  have HW3 := Lib.hid hw3
  have HK := Lib.hid (And.intro k13 k1.size)
  have HT := Lib.hid (h.over k13)
  have HH := Lib.hid hh
  have HA := Lib.hid ht
  obtain ⟨g, c, hgv, hrg⟩ := h.kAt hn
  have hlt := (List.getElem?_eq_some_iff.1 hn).1
  have hnl := h.names n (List.mem_of_getElem? hn)
  have HX := Lib.hid (And.intro hgv (And.intro hrg hnl))
  have hle := hlt
  clear hgv hrg hnl hlt
  have hsm := h.small
  clear hw1 hw2 hw3 k1 k2 k3 k13 r1 r2 r3 h hh ht hn hnx
  go_enter Tryd.func66, Tryd.ntmps66
  go_upto_region 3 with (first
    | (with_reducible refine wpList_box_to _ _ rfl 28 (.tmp 1) rfl _ rfl HW1.out ?_)
    | (with_reducible refine wpList_alloc_to _ _ rfl 28 rfl _ HZ.out.1 HW2.out ?_)
    | (with_reducible refine wpList_alloc_to _ _ rfl 28 rfl _ HZ.out.1 HW3.out ?_)
    | (refine wpList_load_mid rfl 28 (.tmp 3) rfl w.heap.size 0 rfl (nameL t) _ HR1.out Tryd.underlying28 rfl (by rw [nameL_len, HA.out]; exact infoName) ?_)
    | (go_at_call 46; refine (findN_any p s t HA.out _ HT.out).mono ?_; rintro e w4 ⟨rfl, kk⟩; rw [HH.out]; have K4 := Lib.hid kk; clear kk))
  have r2 := K4.out.row HR2.out (by simp)
  have RS := Lib.hid (r2.there (o := 0) (n := (nameL n).toArray.size) (by simp only [List.size_toArray]; rw [HZ.out.2.1, nameL_len, HX.out.2.2]; omega))
  have hy := (HT.out.over K4.out).row.cell 2
  replace hy : w4.cell? ⟨p, 2, none⟩ = some (.slice (some ⟨g, 0, none⟩) s.names.length c) := by rw [hy]; exact congrArg some HX.out.1
  generalize posN s t = i at *
  have hw : IntKind.i64.wrap ((i : Int) + 1) = (i : Int) + 1 := by rw [IntKind.wrap_i64]; omega
  have b1 : ((i : Int) + 1) < (s.names.length : Int) := by omega
  have he : ¬ ((i : Int) + 1) = (s.names.length : Int) := by omega
  have b0 : (0 : Int) ≤ (i : Int) + 1 := by omega
  have htn : ((i : Int) + 1).toNat = i + 1 := by omega
  have RL := Lib.hid (show w4.rangeAt g ((i + 1) * 32) (nameL n) from rangeAt.keep HX.out.2.1 (HK.out.1.then K4.out (by simp)) (by simp))
  generalize s.names.length = N at *
  go_wp2_with (first
    | (refine wpList_load_mid rfl 28 (.tmp 31) rfl g ((i + 1) * 32) (by simp [Act.eval, Act.put]) (nameL n) _ RL.out Tryd.underlying28 rfl (by rw [nameL_len, HX.out.2.2]; exact infoName) ?_)
    | (refine wpList_store_mid rfl 28 (.tmp 4) (.tmp 32) rfl w1.heap.size 0 (nameL n).toArray rfl rfl RS.out (by rw [List.size_toArray, nameL_len, HX.out.2.2]; exact infoName) (all_oneCell_toArray nameL_one) ?_))
  have r5 := r2.setL (vs := (nameL n)) (o := 0)
  rw [putL_all (by simp only [List.size_toArray]; rw [nameL_len, HX.out.2.2, HZ.out.2.1])] at r5
  have k5 := (keepBut.refl [w1.heap.size] w4).setL (vs := (nameL n)) (g := w1.heap.size) (o := 0) (.inl (by simp))
  refine bodyPost_ret (results_row_tmp rfl _ _ w1.heap.size 28 _ (0, 0) _ rfl r5 Tryd.underlying28 rfl (by rw [List.size_toArray, nameL_len, HX.out.2.2]; exact infoName)) rfl ?_
  exact ⟨rfl, (HK.out.1.then K4.out (by simp)).then k5 (fun y hy => by simp at hy; subst hy; exact .inr HK.out.2)⟩
theorem after_any (p : Nat) (s : TS) (t : List UInt8) (ht : t.length = 32) (w : World) (h : isT w p s) :
    Calls Tryd.prog 66 #[.pointer (some ⟨p, 1, none⟩), .agg (nameL t).toArray] w fun e w' => e = .returned (.tuple #[.agg (nameL (afterC s t)).toArray, .bool (afterN s t).isSome]) ∧ keepBut [] w w' := by
  unfold afterC
  cases hn : afterN s t with
  | none =>
    rcases Bool.eq_false_or_eq_true (hitN s t) with hh | hh
    · exact after_ye p s t ht w h hh hn
    · exact after_ne p s t ht w h hh hn
  | some n =>
    rcases Bool.eq_false_or_eq_true (hitN s t) with hh | hh
    · exact after_ym p s t ht w h hh n hn
    · exact after_nm p s t ht w h hh n hn
end Go.Proofs.YtmlmhnhilemjhaaDoor
