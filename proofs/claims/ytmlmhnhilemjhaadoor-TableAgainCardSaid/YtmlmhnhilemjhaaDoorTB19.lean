/-
  TABLE, 19: Last.
-/
import Derived.Test.YtmlmhnhilemjhaaDoorTB18
namespace Go.Proofs.YtmlmhnhilemjhaaDoor
open Go.RowKit
set_option linter.unusedVariables false
set_option maxRecDepth 100000
set_option linter.unusedSimpArgs false

/-- what a client was answered last -/
def ansI (s : TS) (c : Int) : AN := match getI s c with | some b => b.ans | none => anZero
def evI (s : TS) (c : Int) : Value := match getI s c with | some b => b.ev | none => nilV
theorem cellsA_eq (s : TS) (c : Int) : cellsA (getI s c) = anL (ansI s c) (evI s c) := by
  unfold ansI evI
  cases getI s c <;> rfl
theorem getI_mem {s : TS} {c : Int} {b : AB} (h : getI s c = some b) : b ∈ s.answers := by
  unfold getI at h
  split at h
  · exact List.mem_of_getElem? h
  · cases h
theorem isT.ansV {w : World} {p : Nat} {s : TS} (h : isT w p s) (c : Int) : anV w s.F (ansI s c) (evI s c) ∧ (ansI s c).env.length ≤ 1000 := by
  unfold ansI evI
  cases hg : getI s c with
  | none => exact ⟨⟨anZero_name, bytesV.nil _ _⟩, by simp [anZero]⟩
  | some b => exact ⟨⟨h.ansN b (getI_mem hg), h.envA b (getI_mem hg)⟩, h.lensA b (getI_mem hg)⟩
set_option maxHeartbeats 4000000 in
theorem last_any (p : Nat) (s : TS) (c : Int) (hc : 0 ≤ c ∧ c ≤ 1000000) (w : World) (h : isT w p s) :
    Calls Tryd.prog 19 #[.pointer (some ⟨p, 0, none⟩), .int .i64 c] w
      fun e w' => ∃ v G, e = .returned (.tuple #[.agg (anL (ansI s c) v).toArray, .bool (hitI s c)]) ∧ bytesN (ansI s c).env w w' v G := by
  obtain ⟨Z, hZ⟩ : ∃ Z, anL anZero nilV = Z := ⟨_, rfl⟩
  have hz := zv_an
  rw [hZ] at hz
  have hZl : Z.length = 38 := by rw [← hZ]; exact anL_len anZero_name
  clear hZ
  obtain ⟨hav, hal⟩ := h.ansV c
  obtain ⟨X, hX⟩ : ∃ X, anL (ansI s c) (evI s c) = X := ⟨_, rfl⟩
  have hXl : X.length = 38 := by rw [← hX]; exact anL_len hav.1
  have hX1 : ∀ v ∈ X, v.oneCell' = true := by rw [← hX]; exact anL_one _ hav.2.one
  obtain ⟨w1, hw1⟩ : ∃ w1, w.alloc (.cells Z.toArray 40) = w1 := ⟨_, rfl⟩
  have r1 : rowAt w1 w.heap.size 40 Z.toArray := hw1 ▸ rowAt.new _ _ _
  have k1 : keepBut [] w w1 := hw1 ▸ (keepBut.refl [] w).alloc _
  have HW1 := Lib.hid hw1
  have HR1 := Lib.hid r1
  have HK := Lib.hid k1
  have HZ := Lib.hid (And.intro hz hZl)
  have HT := Lib.hid (h.over k1)
  have HX := Lib.hid (And.intro hXl (And.intro hX1 hX))
  have HV := Lib.hid (And.intro (⟨hav.1, hav.2.keep k1 (by simp)⟩ : anV w1 s.F (ansI s c) (evI s c)) hal)
  have HF := Lib.hid (show w.heap.size ∉ s.F from fun hm => by
    obtain ⟨cs, hr⟩ := h.blocks _ hm
    exact Nat.lt_irrefl _ hr.lt)
  have HC := Lib.hid hc
  clear hw1 r1 k1 hz hZl h hav hal hXl hX1 hX hc
  go_enter Tryd.func19, Tryd.ntmps19
  go_upto_region 3 with (first
    | (with_reducible refine wpList_alloc_to _ _ rfl 40 rfl _ HZ.out.1 HW1.out ?_)
    | (go_at_call 23; refine (none_no p s _ HT.out).mono ?_; rintro e w' ⟨rfl, rfl⟩))
  go_upto_region 4 with (first
    | (go_at_call 27; refine (getI_any p s c HC.out _ HT.out).mono ?_; rintro e w2 ⟨rfl, kk⟩; rw [cellsA_eq, HX.out.2.2]; have K2 := Lib.hid kk; have R2 := Lib.hid (kk.row HR1.out (by simp)); clear kk)
    | (refine wpList_store_mid rfl 40 (.tmp 4) (.tmp 15) rfl w.heap.size 0 X.toArray rfl rfl (R2.out.there (by simp only [List.size_toArray]; rw [HX.out.1, HZ.out.2]; omega)) (by rw [List.size_toArray, HX.out.1]; exact info_an) (all_oneCell_toArray HX.out.2.1) ?_))
  have r3 := R2.out.setL (vs := X) (o := 0)
  rw [putL_all (by simp only [List.size_toArray]; rw [HX.out.1, HZ.out.2])] at r3
  have k3 := (keepBut.refl [w.heap.size] w2).setL (vs := X) (g := w.heap.size) (o := 0) (.inl (by simp))
  change rowAt (w2.setCells w.heap.size 0 X.toArray.toList) w.heap.size 40 X.toArray at r3
  change keepBut [w.heap.size] w2 (w2.setCells w.heap.size 0 X.toArray.toList) at k3
  try simp only [List.toList_toArray] at r3 k3
  generalize w2.setCells w.heap.size 0 X = w3 at *
  have R3 := Lib.hid r3
  have K3 := Lib.hid k3
  clear r3 k3
  go_wp2_with (first
    | (refine wpList_load_mid rfl 40 (.tmp 4) rfl w.heap.size 0 rfl X _ R3.out.rangeAll Tryd.underlying40 rfl (by rw [HX.out.1]; exact info_an) ?_)
    | (go_at_call 28; refine ((HX.out.2.2 ▸ copied_any s.F (ansI s c) (evI s c) w3 ⟨HV.out.1.1, (HV.out.1.2.keep K2.out (by simp)).keep K3.out (by intro y hy; simp; rintro rfl; exact HF.out hy)⟩ (by have := HV.out.2; omega))).mono ?_; rintro e w4 ⟨v4, G, rfl, n4⟩; have N4 := Lib.hid n4; have R4 := Lib.hid (n4.2.2.2.row R3.out (by simp)); clear n4; obtain ⟨Y, hY⟩ : ∃ Y, anL (ansI s c) v4 = Y := ⟨_, rfl⟩; have HY := Lib.hid (And.intro (show Y.length = 38 by rw [← hY]; exact anL_len HV.out.1.1) (And.intro (show ∀ v ∈ Y, v.oneCell' = true by rw [← hY]; exact anL_one _ N4.out.1.one) hY)); rw [hY]; clear hY)
    | (refine wpList_store_mid rfl 40 (.tmp 4) (.tmp 18) rfl w.heap.size 0 Y.toArray rfl rfl (R4.out.there (by simp only [List.size_toArray]; rw [HX.out.1, HY.out.1]; omega)) (by rw [List.size_toArray, HY.out.1]; exact info_an) (all_oneCell_toArray HY.out.2.1) ?_))
  have r5 := R4.out.setL (vs := Y) (o := 0)
  rw [putL_all (by simp only [List.size_toArray]; rw [HY.out.1, HX.out.1])] at r5
  have k5 := (keepBut.refl [w.heap.size] w4).setL (vs := Y) (g := w.heap.size) (o := 0) (.inl (by simp))
  have s3 := K3.out.size
  have s2 := K2.out.size
  have l1 := HR1.out.lt
  have hGk : ∀ y ∈ G, y ∉ [w.heap.size] := fun y hy => by have := (N4.out.2.2.1 y hy).1; simp; omega
  refine bodyPost_ret (results_row_tmp rfl _ _ w.heap.size 40 _ (0, 0) _ rfl r5 Tryd.underlying40 rfl (by rw [List.size_toArray, HY.out.1]; exact info_an)) rfl ?_
  refine ⟨v4, G, by rw [HY.out.2.2]; rfl, N4.out.1.keep k5 hGk, fun y hy => ?_, fun y hy => ⟨by have := (N4.out.2.2.1 y hy).1; omega, by have h1 := (N4.out.2.2.1 y hy).2; have h2 := k5.size; omega⟩,
    (((HK.out.then K2.out (by simp)).then K3.out (fun x hx => by simp at hx; subst hx; exact .inr (Nat.le_refl _))).then N4.out.2.2.2 (by simp)).then k5 (fun x hx => by simp at hx; subst hx; exact .inr (Nat.le_refl _))⟩
  obtain ⟨cs, hc⟩ := N4.out.2.1 y hy
  exact ⟨cs, k5.row hc (hGk y hy)⟩
end Go.Proofs.YtmlmhnhilemjhaaDoor
