/-
  TABLE, 10: get and count of both shelves.
-/
import Derived.Test.YtmlmhnhilemjhaaDoorTB9
namespace Go.Proofs.YtmlmhnhilemjhaaDoor
open Go.RowKit
set_option linter.unusedVariables false
set_option maxRecDepth 100000
set_option linter.unusedSimpArgs false

def obL (b : OB) : List Value := [.int .i64 b.version, b.ev]
def cellsO : Option OB → List Value
  | some b => obL b
  | none => [.int .i64 0, nilV]
def cellsA : Option AB → List Value
  | some b => anL b.ans b.ev
  | none => anL anZero nilV
def getN (s : TS) (t : List UInt8) : Option OB := if hitN s t = true then s.objs[posN s t]? else none
def getI (s : TS) (t : Int) : Option AB := if hitI s t = true then s.answers[posI s t]? else none
theorem info_ob : (Tryd.prog.info? 72).map (·.size) = some 2 := by kernel_rfl
theorem zv_ob : (Tryd.prog.info? 72).bind (·.zero) = some (.agg ([.int .i64 0, nilV] : List Value).toArray) := by kernel_rfl
theorem hitOf_at {α : Type} {f : α → Int} {l : List α} (h : hitOf f l = true) : ∃ x, l[posOf f l]? = some x ∧ f x = 0 := by
  unfold hitOf at h
  cases hx : l[posOf f l]? with
  | none => rw [hx] at h; cases h
  | some x => rw [hx] at h; exact ⟨x, rfl, of_decide_eq_true h⟩
theorem hitN_at {s : TS} {t : List UInt8} (h : hitN s t = true) : ∃ b, s.objs[posN s t]? = some b ∧ b.name = t := by
  obtain ⟨x, hx, h0⟩ := hitOf_at h
  change s.names[posN s t]? = some x at hx
  unfold TS.names at hx
  rw [List.getElem?_map] at hx
  cases hb : s.objs[posN s t]? with
  | none => rw [hb] at hx; cases hx
  | some b =>
    rw [hb] at hx
    injection hx with hx
    exact ⟨b, rfl, (show b.name = x from hx) ▸ cmpB_eq _ _ h0⟩
theorem hitI_at {s : TS} {t : Int} (h : hitI s t = true) : ∃ b, s.answers[posI s t]? = some b ∧ b.ans.client = t := by
  obtain ⟨x, hx, h0⟩ := hitOf_at h
  change s.keys[posI s t]? = some x at hx
  unfold TS.keys at hx
  rw [List.getElem?_map] at hx
  cases hb : s.answers[posI s t]? with
  | none => rw [hb] at hx; cases hx
  | some b =>
    rw [hb] at hx
    injection hx with hx
    have h1 : b.ans.client = x := hx
    exact ⟨b, rfl, by omega⟩
theorem flatO_at : ∀ (l : List OB) (i : Nat) (b : OB), l[i]? = some b → ∀ j u, (obL b)[j]? = some u → (flatO l)[i * 2 + j]? = some u
  | [], i, n, h, _, _, _ => by simp at h
  | a :: r, 0, n, h, j, u, hu => by
    simp at h; subst h
    match j, hu with
    | 0, hu => exact hu
    | 1, hu => exact hu
  | a :: r, i + 1, n, h, j, u, hu => by
    have := flatO_at r i n (by simpa using h) j u hu
    rw [show (i + 1) * 2 + j = (i * 2 + j) + 1 + 1 by omega]
    exact this
theorem flatA_at : ∀ (l : List AB) (i : Nat) (b : AB), (∀ b ∈ l, b.ans.name.length = 32) → l[i]? = some b → ∀ j u, (anL b.ans b.ev)[j]? = some u → (flatA l)[i * 38 + j]? = some u
  | [], i, n, _, h, _, _, _ => by simp at h
  | a :: r, 0, n, hl, h, j, u, hu => by
    simp at h; subst h
    have hj : j < (anL a.ans a.ev).length := (List.getElem?_eq_some_iff.1 hu).1
    rw [flatA, Nat.zero_mul, Nat.zero_add, List.getElem?_append_left hj]
    exact hu
  | a :: r, i + 1, n, hl, h, j, u, hu => by
    have ha := anL_len (ev := a.ev) (hl a (by simp))
    rw [flatA, List.getElem?_append_right (by rw [ha]; omega), ha]
    have := flatA_at r i n (fun m hm => hl m (by simp [hm])) (by simpa using h) j u hu
    rw [show (i + 1) * 38 + j - 38 = i * 38 + j by omega]
    exact this
theorem isT.vAt {w : World} {p : Nat} {s : TS} (h : isT w p s) {i : Nat} {b : OB} (hi : s.objs[i]? = some b) :
    ∃ g c, s.vv = .slice (some ⟨g, 0, none⟩) s.objs.length c ∧ w.rangeAt g (i * 2) (obL b) := by
  have hlt := (List.getElem?_eq_some_iff.1 hi).1
  rcases h.vown.2 with ⟨_, h0⟩ | ⟨g, cap, cur, he, hr, h1, h2, h3, h4⟩
  · omega
  · exact ⟨g, cap, he, fun j u hu => (hr.cell _).trans (take_at h4 (flatO_at _ _ _ hi j u hu))⟩
theorem isT.aAt {w : World} {p : Nat} {s : TS} (h : isT w p s) {i : Nat} {b : AB} (hi : s.answers[i]? = some b) :
    ∃ g c, s.av = .slice (some ⟨g, 0, none⟩) s.answers.length c ∧ w.rangeAt g (i * 38) (anL b.ans b.ev) := by
  have hlt := (List.getElem?_eq_some_iff.1 hi).1
  rcases h.aown.2 with ⟨_, h0⟩ | ⟨g, cap, cur, he, hr, h1, h2, h3, h4⟩
  · omega
  · exact ⟨g, cap, he, fun j u hu => (hr.cell _).trans (take_at h4 (flatA_at _ _ _ h.ansN hi j u hu))⟩
set_option maxHeartbeats 8000000 in
theorem getN_no (p : Nat) (s : TS) (t : List UInt8) (ht : t.length = 32) (w : World) (h : isT w p s) (hh : hitN s t = false) :
    Calls Tryd.prog 24 #[.pointer (some ⟨p, 1, none⟩), .agg (nameL t).toArray] w
      fun e w' => e = .returned (.tuple #[.agg (cellsO (getN s t)).toArray, .bool false]) ∧ keepBut [] w w' := by
  have hget : getN s t = none := by unfold getN; rw [if_neg (by rw [hh]; simp)]
  rw [hget]
  have hX : cellsO none = ([.int .i64 0, nilV] : List Value) := rfl
  rw [hX]
  obtain ⟨Z, hZ⟩ : ∃ Z, ([.int .i64 0, nilV] : List Value) = Z := ⟨_, rfl⟩
  have hz := zv_ob
  rw [hZ] at hz
  rw [hZ]
  have hZl : Z.length = 2 := by rw [← hZ]; rfl
  have hZ1 : ∀ v ∈ Z, v.oneCell' = true := by rw [← hZ]; intro v hv; simp only [nilV, List.mem_cons, List.not_mem_nil, or_false] at hv; rcases hv with rfl | rfl <;> rfl
  clear hZ
  obtain ⟨w1, hw1⟩ : ∃ w1, w.alloc (.cells (nameL t).toArray 28) = w1 := ⟨_, rfl⟩
  have r1 : rowAt w1 w.heap.size 28 (nameL t).toArray := hw1 ▸ rowAt.new _ _ _
  have k1 : keepBut [] w w1 := hw1 ▸ (keepBut.refl [] w).alloc _
  obtain ⟨w2, hw2⟩ : ∃ w2, w1.alloc (.cells Z.toArray 72) = w2 := ⟨_, rfl⟩
  have r2 : rowAt w2 w1.heap.size 72 Z.toArray := hw2 ▸ rowAt.new _ _ _
  have k2 : keepBut [] w1 w2 := hw2 ▸ (keepBut.refl [] w1).alloc _
  obtain ⟨w3, hw3⟩ : ∃ w3, w2.alloc (.cells Z.toArray 72) = w3 := ⟨_, rfl⟩
  have r3 : rowAt w3 w2.heap.size 72 Z.toArray := hw3 ▸ rowAt.new _ _ _
  have k3 : keepBut [] w2 w3 := hw3 ▸ (keepBut.refl [] w2).alloc _
  have k13 := (k1.then k2 (by simp)).then k3 (by simp)
  have HR1 := Lib.hid (((k2.then k3 (by simp)).row r1 (by simp)).rangeAll)
  have HW1 := Lib.hid hw1
  have HR2 := Lib.hid (k3.row r2 (by simp))
  have HR3 := Lib.hid r3
  have HW2 := Lib.hid hw2
  have HW3 := Lib.hid hw3
  have HK := Lib.hid (And.intro k13 k1.size)
  have HT := Lib.hid (h.over k13)
  have HZ := Lib.hid (And.intro hz (And.intro hZl hZ1))
  have HH := Lib.hid hh
  have HA := Lib.hid ht
  clear hw2 hw3 k1 k2 k3 k13 r2 r3 h hh ht hz hZl hZ1 hget hw1 r1 hX
  go_enter Tryd.func24, Tryd.ntmps24
  go_upto_region 3 with (first
    | (with_reducible refine wpList_box_to _ _ rfl 28 (.tmp 1) rfl _ rfl HW1.out ?_)
    | (with_reducible refine wpList_alloc_to _ _ rfl 72 rfl _ HZ.out.1 HW2.out ?_)
    | (with_reducible refine wpList_alloc_to _ _ rfl 72 rfl _ HZ.out.1 HW3.out ?_)
    | (refine wpList_load_mid rfl 28 (.tmp 3) rfl w.heap.size 0 rfl (nameL t) _ HR1.out Tryd.underlying28 rfl (by rw [nameL_len, HA.out]; exact infoName) ?_)
    | (go_at_call 46; refine (findN_any p s t HA.out _ HT.out).mono ?_; rintro e w4 ⟨rfl, kk⟩; rw [HH.out]; have K4 := Lib.hid kk; clear kk))
  have r2 := K4.out.row HR2.out (by simp)
  have RS := Lib.hid (r2.there (o := 0) (n := Z.toArray.size) (by simp only [List.size_toArray]; rw [HZ.out.2.1]; omega))
  have RL := Lib.hid ((K4.out.row HR3.out (by simp)).rangeAll)
  go_wp2_with (first
    | (refine wpList_load_mid rfl 72 (.tmp 6) rfl w2.heap.size 0 rfl Z _ RL.out Tryd.underlying72 rfl (by rw [HZ.out.2.1]; exact info_ob) ?_)
    | (refine wpList_store_mid rfl 72 (.tmp 4) (.tmp 17) rfl w1.heap.size 0 Z.toArray rfl rfl RS.out (by rw [List.size_toArray, HZ.out.2.1]; exact info_ob) (all_oneCell_toArray HZ.out.2.2) ?_))
  have r5 := r2.setL (vs := Z) (o := 0)
  rw [putL_all (by simp only [List.size_toArray])] at r5
  have k5 := (keepBut.refl [w1.heap.size] w4).setL (vs := Z) (g := w1.heap.size) (o := 0) (.inl (by simp))
  refine bodyPost_ret (results_row_tmp rfl _ _ w1.heap.size 72 _ (0, 0) _ rfl r5 Tryd.underlying72 rfl (by rw [List.size_toArray, HZ.out.2.1]; exact info_ob)) rfl ?_
  exact ⟨rfl, (HK.out.1.then K4.out (by simp)).then k5 (fun y hy => by simp at hy; subst hy; exact .inr HK.out.2)⟩
set_option maxHeartbeats 8000000 in
theorem getN_yes (p : Nat) (s : TS) (t : List UInt8) (ht : t.length = 32) (w : World) (h : isT w p s) (hh : hitN s t = true) :
    Calls Tryd.prog 24 #[.pointer (some ⟨p, 1, none⟩), .agg (nameL t).toArray] w
      fun e w' => e = .returned (.tuple #[.agg (cellsO (getN s t)).toArray, .bool true]) ∧ keepBut [] w w' := by
  obtain ⟨b, hb, _⟩ := hitN_at hh
  have hget : getN s t = some b := by unfold getN; rw [if_pos hh, hb]
  rw [hget]
  obtain ⟨X, hX⟩ : ∃ X, cellsO (some b) = X := ⟨_, rfl⟩
  have hXl : X.length = 2 := by rw [← hX]; rfl
  have hX1 : ∀ v ∈ X, v.oneCell' = true := by intro v hv; rw [← hX] at hv; simp only [cellsO, obL, List.mem_cons, List.not_mem_nil, or_false] at hv; rcases hv with rfl | rfl; rfl; exact (h.envO b (List.mem_of_getElem? hb)).one
  obtain ⟨g, c, hgv, hrg⟩ := h.vAt hb
  rw [hX]
  have hrg1 : w.rangeAt g (posN s t * 2) X := by rw [← hX]; exact hrg
  have hlt := (List.getElem?_eq_some_iff.1 hb).1
  obtain ⟨Z, hZ⟩ : ∃ Z, ([.int .i64 0, nilV] : List Value) = Z := ⟨_, rfl⟩
  have hz := zv_ob
  rw [hZ] at hz
  have hZl : Z.length = 2 := by rw [← hZ]; rfl
  have hZ1 : ∀ v ∈ Z, v.oneCell' = true := by rw [← hZ]; intro v hv; simp only [nilV, List.mem_cons, List.not_mem_nil, or_false] at hv; rcases hv with rfl | rfl <;> rfl
  clear hZ
  obtain ⟨w1, hw1⟩ : ∃ w1, w.alloc (.cells (nameL t).toArray 28) = w1 := ⟨_, rfl⟩
  have r1 : rowAt w1 w.heap.size 28 (nameL t).toArray := hw1 ▸ rowAt.new _ _ _
  have k1 : keepBut [] w w1 := hw1 ▸ (keepBut.refl [] w).alloc _
  obtain ⟨w2, hw2⟩ : ∃ w2, w1.alloc (.cells Z.toArray 72) = w2 := ⟨_, rfl⟩
  have r2 : rowAt w2 w1.heap.size 72 Z.toArray := hw2 ▸ rowAt.new _ _ _
  have k2 : keepBut [] w1 w2 := hw2 ▸ (keepBut.refl [] w1).alloc _
  obtain ⟨w3, hw3⟩ : ∃ w3, w2.alloc (.cells Z.toArray 72) = w3 := ⟨_, rfl⟩
  have r3 : rowAt w3 w2.heap.size 72 Z.toArray := hw3 ▸ rowAt.new _ _ _
  have k3 : keepBut [] w2 w3 := hw3 ▸ (keepBut.refl [] w2).alloc _
  have k13 := (k1.then k2 (by simp)).then k3 (by simp)
  have HR1 := Lib.hid (((k2.then k3 (by simp)).row r1 (by simp)).rangeAll)
  have HW1 := Lib.hid hw1
  have HR2 := Lib.hid (k3.row r2 (by simp))
  have HR3 := Lib.hid r3
  have HW2 := Lib.hid hw2
  have HW3 := Lib.hid hw3
  have HK := Lib.hid (And.intro k13 k1.size)
  have HT := Lib.hid (h.over k13)
  have HZ := Lib.hid (And.intro hz (And.intro hZl hZ1))
  have HH := Lib.hid hh
  have HA := Lib.hid ht
  have HX := Lib.hid (And.intro hXl (And.intro hX1 (And.intro hgv hrg1)))
  have HL := Lib.hid hlt
  clear hw2 hw3 k1 k2 k3 k13 r2 r3 h hh ht hz hZl hZ1 hget hw1 r1 hXl hX1 hgv hrg hrg1 hb hX hlt
  go_enter Tryd.func24, Tryd.ntmps24
  go_upto_region 3 with (first
    | (with_reducible refine wpList_box_to _ _ rfl 28 (.tmp 1) rfl _ rfl HW1.out ?_)
    | (with_reducible refine wpList_alloc_to _ _ rfl 72 rfl _ HZ.out.1 HW2.out ?_)
    | (with_reducible refine wpList_alloc_to _ _ rfl 72 rfl _ HZ.out.1 HW3.out ?_)
    | (refine wpList_load_mid rfl 28 (.tmp 3) rfl w.heap.size 0 rfl (nameL t) _ HR1.out Tryd.underlying28 rfl (by rw [nameL_len, HA.out]; exact infoName) ?_)
    | (go_at_call 46; refine (findN_any p s t HA.out _ HT.out).mono ?_; rintro e w4 ⟨rfl, kk⟩; rw [HH.out]; have K4 := Lib.hid kk; clear kk))
  have r2 := K4.out.row HR2.out (by simp)
  have RS := Lib.hid (r2.there (o := 0) (n := X.toArray.size) (by simp only [List.size_toArray]; rw [HX.out.1, HZ.out.2.1]; omega))
  have hy := (HT.out.over K4.out).row.cell 3
  replace hy : w4.cell? ⟨p, 3, none⟩ = some (.slice (some ⟨g, 0, none⟩) s.objs.length c) := by rw [hy]; exact congrArg some HX.out.2.2.1
  have b1 : ((posN s t : Nat) : Int) < (s.objs.length : Int) := by have := HL.out; omega
  have RL := Lib.hid (show w4.rangeAt g (posN s t * 2) X from rangeAt.keep HX.out.2.2.2 (HK.out.1.then K4.out (by simp)) (by simp))
  generalize posN s t = i at *
  go_wp2_with (first
    | (refine wpList_load_mid rfl 72 (.tmp 23) rfl g (i * 2) rfl X _ RL.out Tryd.underlying72 rfl (by rw [HX.out.1]; exact info_ob) ?_)
    | (refine wpList_store_mid rfl 72 (.tmp 4) (.tmp 24) rfl w1.heap.size 0 X.toArray rfl rfl RS.out (by rw [List.size_toArray, HX.out.1]; exact info_ob) (all_oneCell_toArray HX.out.2.1) ?_))
  have r5 := r2.setL (vs := X) (o := 0)
  rw [putL_all (by simp only [List.size_toArray]; rw [HX.out.1, HZ.out.2.1])] at r5
  have k5 := (keepBut.refl [w1.heap.size] w4).setL (vs := X) (g := w1.heap.size) (o := 0) (.inl (by simp))
  refine bodyPost_ret (results_row_tmp rfl _ _ w1.heap.size 72 _ (0, 0) _ rfl r5 Tryd.underlying72 rfl (by rw [List.size_toArray, HX.out.1]; exact info_ob)) rfl ?_
  exact ⟨rfl, (HK.out.1.then K4.out (by simp)).then k5 (fun y hy => by simp at hy; subst hy; exact .inr HK.out.2)⟩
set_option maxHeartbeats 8000000 in
theorem getI_no (p : Nat) (s : TS) (t : Int) (ht : 0 ≤ t ∧ t ≤ 1000000) (w : World) (h : isT w p s) (hh : hitI s t = false) :
    Calls Tryd.prog 27 #[.pointer (some ⟨p, 4, none⟩), .int .i64 t] w
      fun e w' => e = .returned (.tuple #[.agg (cellsA (getI s t)).toArray, .bool false]) ∧ keepBut [] w w' := by
  have hget : getI s t = none := by unfold getI; rw [if_neg (by rw [hh]; simp)]
  rw [hget]
  have hX : cellsA none = anL anZero nilV := rfl
  rw [hX]
  obtain ⟨Z, hZ⟩ : ∃ Z, anL anZero nilV = Z := ⟨_, rfl⟩
  have hz := zv_an
  rw [hZ] at hz
  rw [hZ]
  have hZl : Z.length = 38 := by rw [← hZ]; exact anL_len anZero_name
  have hZ1 : ∀ v ∈ Z, v.oneCell' = true := by rw [← hZ]; exact anZ_one
  clear hZ
  have k1 : keepBut [] w w := keepBut.refl [] w
  obtain ⟨w2, hw2⟩ : ∃ w2, w.alloc (.cells Z.toArray 40) = w2 := ⟨_, rfl⟩
  have r2 : rowAt w2 w.heap.size 40 Z.toArray := hw2 ▸ rowAt.new _ _ _
  have k2 : keepBut [] w w2 := hw2 ▸ (keepBut.refl [] w).alloc _
  obtain ⟨w3, hw3⟩ : ∃ w3, w2.alloc (.cells Z.toArray 40) = w3 := ⟨_, rfl⟩
  have r3 : rowAt w3 w2.heap.size 40 Z.toArray := hw3 ▸ rowAt.new _ _ _
  have k3 : keepBut [] w2 w3 := hw3 ▸ (keepBut.refl [] w2).alloc _
  have k13 := (k1.then k2 (by simp)).then k3 (by simp)
  have HR2 := Lib.hid (k3.row r2 (by simp))
  have HR3 := Lib.hid r3
  have HW2 := Lib.hid hw2
  have HW3 := Lib.hid hw3
  have HK := Lib.hid (And.intro k13 k1.size)
  have HT := Lib.hid (h.over k13)
  have HZ := Lib.hid (And.intro hz (And.intro hZl hZ1))
  have HH := Lib.hid hh
  have HA := Lib.hid ht
  clear hw2 hw3 k1 k2 k3 k13 r2 r3 h hh ht hz hZl hZ1 hget hX
  go_enter Tryd.func27, Tryd.ntmps27
  go_upto_region 3 with (first
    | (with_reducible refine wpList_alloc_to _ _ rfl 40 rfl _ HZ.out.1 HW2.out ?_)
    | (with_reducible refine wpList_alloc_to _ _ rfl 40 rfl _ HZ.out.1 HW3.out ?_)
    | (go_at_call 51; refine (findI_any p s t HA.out _ HT.out).mono ?_; rintro e w4 ⟨rfl, kk⟩; rw [HH.out]; have K4 := Lib.hid kk; clear kk))
  have r2 := K4.out.row HR2.out (by simp)
  have RS := Lib.hid (r2.there (o := 0) (n := Z.toArray.size) (by simp only [List.size_toArray]; rw [HZ.out.2.1]; omega))
  have RL := Lib.hid ((K4.out.row HR3.out (by simp)).rangeAll)
  go_wp2_with (first
    | (refine wpList_load_mid rfl 40 (.tmp 6) rfl w2.heap.size 0 rfl Z _ RL.out Tryd.underlying40 rfl (by rw [HZ.out.2.1]; exact info_an) ?_)
    | (refine wpList_store_mid rfl 40 (.tmp 4) (.tmp 17) rfl w.heap.size 0 Z.toArray rfl rfl RS.out (by rw [List.size_toArray, HZ.out.2.1]; exact info_an) (all_oneCell_toArray HZ.out.2.2) ?_))
  have r5 := r2.setL (vs := Z) (o := 0)
  rw [putL_all (by simp only [List.size_toArray])] at r5
  have k5 := (keepBut.refl [w.heap.size] w4).setL (vs := Z) (g := w.heap.size) (o := 0) (.inl (by simp))
  refine bodyPost_ret (results_row_tmp rfl _ _ w.heap.size 40 _ (0, 0) _ rfl r5 Tryd.underlying40 rfl (by rw [List.size_toArray, HZ.out.2.1]; exact info_an)) rfl ?_
  exact ⟨rfl, (HK.out.1.then K4.out (by simp)).then k5 (fun y hy => by simp at hy; subst hy; exact .inr HK.out.2)⟩
set_option maxHeartbeats 8000000 in
theorem getI_yes (p : Nat) (s : TS) (t : Int) (ht : 0 ≤ t ∧ t ≤ 1000000) (w : World) (h : isT w p s) (hh : hitI s t = true) :
    Calls Tryd.prog 27 #[.pointer (some ⟨p, 4, none⟩), .int .i64 t] w
      fun e w' => e = .returned (.tuple #[.agg (cellsA (getI s t)).toArray, .bool true]) ∧ keepBut [] w w' := by
  obtain ⟨b, hb, _⟩ := hitI_at hh
  have hget : getI s t = some b := by unfold getI; rw [if_pos hh, hb]
  rw [hget]
  obtain ⟨X, hX⟩ : ∃ X, cellsA (some b) = X := ⟨_, rfl⟩
  have hXl : X.length = 38 := by rw [← hX]; exact anL_len (h.ansN b (List.mem_of_getElem? hb))
  have hX1 : ∀ v ∈ X, v.oneCell' = true := by intro v hv; rw [← hX] at hv; exact anL_one b.ans (h.envA b (List.mem_of_getElem? hb)).one v hv
  obtain ⟨g, c, hgv, hrg⟩ := h.aAt hb
  rw [hX]
  have hrg1 : w.rangeAt g (posI s t * 38) X := by rw [← hX]; exact hrg
  have hlt := (List.getElem?_eq_some_iff.1 hb).1
  obtain ⟨Z, hZ⟩ : ∃ Z, anL anZero nilV = Z := ⟨_, rfl⟩
  have hz := zv_an
  rw [hZ] at hz
  have hZl : Z.length = 38 := by rw [← hZ]; exact anL_len anZero_name
  have hZ1 : ∀ v ∈ Z, v.oneCell' = true := by rw [← hZ]; exact anZ_one
  clear hZ
  have k1 : keepBut [] w w := keepBut.refl [] w
  obtain ⟨w2, hw2⟩ : ∃ w2, w.alloc (.cells Z.toArray 40) = w2 := ⟨_, rfl⟩
  have r2 : rowAt w2 w.heap.size 40 Z.toArray := hw2 ▸ rowAt.new _ _ _
  have k2 : keepBut [] w w2 := hw2 ▸ (keepBut.refl [] w).alloc _
  obtain ⟨w3, hw3⟩ : ∃ w3, w2.alloc (.cells Z.toArray 40) = w3 := ⟨_, rfl⟩
  have r3 : rowAt w3 w2.heap.size 40 Z.toArray := hw3 ▸ rowAt.new _ _ _
  have k3 : keepBut [] w2 w3 := hw3 ▸ (keepBut.refl [] w2).alloc _
  have k13 := (k1.then k2 (by simp)).then k3 (by simp)
  have HR2 := Lib.hid (k3.row r2 (by simp))
  have HR3 := Lib.hid r3
  have HW2 := Lib.hid hw2
  have HW3 := Lib.hid hw3
  have HK := Lib.hid (And.intro k13 k1.size)
  have HT := Lib.hid (h.over k13)
  have HZ := Lib.hid (And.intro hz (And.intro hZl hZ1))
  have HH := Lib.hid hh
  have HA := Lib.hid ht
  have HX := Lib.hid (And.intro hXl (And.intro hX1 (And.intro hgv hrg1)))
  have HL := Lib.hid hlt
  clear hw2 hw3 k1 k2 k3 k13 r2 r3 h hh ht hz hZl hZ1 hget hXl hX1 hgv hrg hrg1 hb hX hlt
  go_enter Tryd.func27, Tryd.ntmps27
  go_upto_region 3 with (first
    | (with_reducible refine wpList_alloc_to _ _ rfl 40 rfl _ HZ.out.1 HW2.out ?_)
    | (with_reducible refine wpList_alloc_to _ _ rfl 40 rfl _ HZ.out.1 HW3.out ?_)
    | (go_at_call 51; refine (findI_any p s t HA.out _ HT.out).mono ?_; rintro e w4 ⟨rfl, kk⟩; rw [HH.out]; have K4 := Lib.hid kk; clear kk))
  have r2 := K4.out.row HR2.out (by simp)
  have RS := Lib.hid (r2.there (o := 0) (n := X.toArray.size) (by simp only [List.size_toArray]; rw [HX.out.1, HZ.out.2.1]; omega))
  have hy := (HT.out.over K4.out).row.cell 6
  replace hy : w4.cell? ⟨p, 6, none⟩ = some (.slice (some ⟨g, 0, none⟩) s.answers.length c) := by rw [hy]; exact congrArg some HX.out.2.2.1
  have b1 : ((posI s t : Nat) : Int) < (s.answers.length : Int) := by have := HL.out; omega
  have RL := Lib.hid (show w4.rangeAt g (posI s t * 38) X from rangeAt.keep HX.out.2.2.2 (HK.out.1.then K4.out (by simp)) (by simp))
  generalize posI s t = i at *
  go_wp2_with (first
    | (refine wpList_load_mid rfl 40 (.tmp 23) rfl g (i * 38) rfl X _ RL.out Tryd.underlying40 rfl (by rw [HX.out.1]; exact info_an) ?_)
    | (refine wpList_store_mid rfl 40 (.tmp 4) (.tmp 24) rfl w.heap.size 0 X.toArray rfl rfl RS.out (by rw [List.size_toArray, HX.out.1]; exact info_an) (all_oneCell_toArray HX.out.2.1) ?_))
  have r5 := r2.setL (vs := X) (o := 0)
  rw [putL_all (by simp only [List.size_toArray]; rw [HX.out.1, HZ.out.2.1])] at r5
  have k5 := (keepBut.refl [w.heap.size] w4).setL (vs := X) (g := w.heap.size) (o := 0) (.inl (by simp))
  refine bodyPost_ret (results_row_tmp rfl _ _ w.heap.size 40 _ (0, 0) _ rfl r5 Tryd.underlying40 rfl (by rw [List.size_toArray, HX.out.1]; exact info_an)) rfl ?_
  exact ⟨rfl, (HK.out.1.then K4.out (by simp)).then k5 (fun y hy => by simp at hy; subst hy; exact .inr HK.out.2)⟩
set_option maxHeartbeats 2000000 in
theorem countN_any (p : Nat) (s : TS) (w : World) (h : isT w p s) :
    Calls Tryd.prog 34 #[.pointer (some ⟨p, 1, none⟩)] w fun e w' => e = .returned (.int .i64 (s.objs.length : Nat)) ∧ w = w' := by
  have hy := h.row.cell 2
  obtain ⟨A, c, he, _⟩ := h.kown.form
  have hl : s.names.length = s.objs.length := by simp [TS.names, TS.keys]
  rw [hl] at he
  replace hy : w.cell? ⟨p, 2, none⟩ = some (.slice A s.objs.length c) := by rw [hy]; exact congrArg some he
  clear he h hl
  generalize s.objs.length = n at *
  go_enter Tryd.func34, Tryd.ntmps34
  go_wp2
  go_ret
  exact ⟨rfl, rfl⟩
set_option maxHeartbeats 2000000 in
theorem countI_any (p : Nat) (s : TS) (w : World) (h : isT w p s) :
    Calls Tryd.prog 37 #[.pointer (some ⟨p, 4, none⟩)] w fun e w' => e = .returned (.int .i64 (s.answers.length : Nat)) ∧ w = w' := by
  have hy := h.row.cell 5
  obtain ⟨A, c, he, _⟩ := h.iown.form
  have hl : s.keys.length = s.answers.length := by simp [TS.names, TS.keys]
  rw [hl] at he
  replace hy : w.cell? ⟨p, 5, none⟩ = some (.slice A s.answers.length c) := by rw [hy]; exact congrArg some he
  clear he h hl
  generalize s.answers.length = n at *
  go_enter Tryd.func37, Tryd.ntmps37
  go_wp2
  go_ret
  exact ⟨rfl, rfl⟩
end Go.Proofs.YtmlmhnhilemjhaaDoor
