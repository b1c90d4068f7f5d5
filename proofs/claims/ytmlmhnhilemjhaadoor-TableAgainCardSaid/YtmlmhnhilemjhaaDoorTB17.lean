/-
  TABLE, 17: is there a table; the epoch; an answer in memory of its own (copied).
-/
import Derived.Test.YtmlmhnhilemjhaaDoorTB16
namespace Go.Proofs.YtmlmhnhilemjhaaDoor
open Go.RowKit
set_option linter.unusedVariables false
set_option maxRecDepth 100000
set_option linter.unusedSimpArgs false

theorem fn_eql (w : World) : (binOp .eql 57 (.func (.func 20) #[.agg #[]] #[]) .nilFunc).run Tryd.prog w = .ok (.bool false) w := by kernel_rfl
theorem none_no (p : Nat) (s : TS) (w : World) (h : isT w p s) :
    Calls Tryd.prog 23 #[.pointer (some ⟨p, 0, none⟩)] w fun e w' => e = .returned (.bool false) ∧ w = w' := by
  have hy : w.cell? ⟨p, 1, none⟩ = some (.func (.func 20) #[.agg #[]] #[]) := h.row.cell 1
  have hq := fn_eql w
  clear h
  go_enter Tryd.func23, Tryd.ntmps23
  go_wp2
  go_ret
  exact ⟨rfl, rfl⟩
theorem epoch_any (p : Nat) (s : TS) (w : World) (h : isT w p s) :
    Calls Tryd.prog 10 #[.pointer (some ⟨p, 0, none⟩)] w fun e w' => e = .returned (.int .i64 s.epoch) ∧ w = w' := by
  have hy : w.cell? ⟨p, 0, none⟩ = some (.int .i64 s.epoch) := h.row.cell 0
  have H := Lib.hid h
  clear h
  go_enter Tryd.func10, Tryd.ntmps10
  go_wp2_with (go_at_call 23; refine (none_no p s _ H.out).mono ?_; rintro e w' ⟨rfl, rfl⟩)
  go_ret
  exact ⟨rfl, rfl⟩
theorem anL_set {a : AN} {ev : Value} (h : a.name.length = 32) (u : Value) : (anL a ev).toArray.setIfInBounds 37 u = (anL a u).toArray :=
  set_mid (a := .int .i64 a.client :: .int .i64 a.num :: .int .i64 a.code :: .int .i64 a.version :: .int .i64 a.epoch :: nameL a.name) (b := []) (x := ev) (by simp [anL]) (by simp [nameL_len, h]) u
set_option maxHeartbeats 4000000 in
theorem copied_any (F : List Nat) (a : AN) (ev : Value) (w : World) (h : anV w F a ev) (hl : a.env.length ≤ 1000000) :
    Calls Tryd.prog 28 #[.agg (anL a ev).toArray] w fun e w' => ∃ v G, e = .returned (.agg (anL a v).toArray) ∧ bytesN a.env w w' v G := by
  obtain ⟨X, hX⟩ : ∃ X, anL a ev = X := ⟨_, rfl⟩
  have hXl : X.length = 38 := by rw [← hX]; exact anL_len h.1
  have he : X.toArray[37]? = some ev := by rw [← hX]; exact anL_env h.1
  have hset : ∀ u, X.toArray.setIfInBounds 37 u = (anL a u).toArray := fun u => by rw [← hX]; exact anL_set h.1 u
  rw [hX]
  obtain ⟨Z, hZ⟩ : ∃ Z, anL anZero nilV = Z := ⟨_, rfl⟩
  have hz := zv_an
  rw [hZ] at hz
  have hZl : Z.length = 38 := by rw [← hZ]; exact anL_len anZero_name
  clear hZ
  obtain ⟨w1, hw1⟩ : ∃ w1, w.alloc (.cells X.toArray 40) = w1 := ⟨_, rfl⟩
  have r1 : rowAt w1 w.heap.size 40 X.toArray := hw1 ▸ rowAt.new _ _ _
  have k1 : keepBut [] w w1 := hw1 ▸ (keepBut.refl [] w).alloc _
  obtain ⟨w2, hw2⟩ : ∃ w2, w1.alloc (.cells Z.toArray 40) = w2 := ⟨_, rfl⟩
  have r2 : rowAt w2 w1.heap.size 40 Z.toArray := hw2 ▸ rowAt.new _ _ _
  have k2 : keepBut [] w1 w2 := hw2 ▸ (keepBut.refl [] w1).alloc _
  have k12 := k1.then k2 (by simp)
  have hy : w2.cell? ⟨w.heap.size, 37, none⟩ = some ev := ((k2.row r1 (by simp)).cell 37).trans he
  have HW1 := Lib.hid hw1
  have HW2 := Lib.hid hw2
  have HR1 := Lib.hid (k2.row r1 (by simp))
  have HR2 := Lib.hid r2
  have HK := Lib.hid (And.intro k12 (show w.heap.size < w1.heap.size from r1.lt))
  have HZ := Lib.hid (And.intro hz hZl)
  have HE := Lib.hid (h.2.keep k12 (by simp))
  have HS := Lib.hid hset
  have HL := Lib.hid (And.intro hl h.1)
  have HX := Lib.hid hXl
  clear hw1 hw2 r1 r2 k1 k2 k12 hz hZl h hset hl he hX hXl
  go_enter Tryd.func28, Tryd.ntmps28
  go_upto_region 1 with (first
    | (with_reducible refine wpList_box_to _ _ rfl 40 (.tmp 0) rfl _ rfl HW1.out ?_)
    | (with_reducible refine wpList_alloc_to _ _ rfl 40 rfl _ HZ.out.1 HW2.out ?_))
  go_upto_region 2 with (go_at_call 25; refine (cloneB_any F ev a.env _ HE.out HL.out.1).mono ?_; rintro e w3 ⟨v3, G, rfl, n3⟩; obtain ⟨A3, c3, g3, rfl, _⟩ := id n3.1; have N3 := Lib.hid n3; have R3 := Lib.hid (n3.2.2.2.row HR1.out (by simp)); have R4 := Lib.hid (n3.2.2.2.row HR2.out (by simp)); clear n3; have hf := R3.out.free 37; have hy2 := (R3.out.cell 37).trans (show X.toArray[37]? = some X.toArray[37]! from by have := HX.out; simp [getElem!_pos, this]))
  have r5 := R3.out.set 37 (.slice A3 a.env.length c3)
  rw [HS.out] at r5
  have k5 : keepBut [w.heap.size] w3 (w3.setCell ⟨w.heap.size, 37, none⟩ (.slice A3 a.env.length c3)) := kset _ _ _ _
  generalize w3.setCell ⟨w.heap.size, 37, none⟩ (.slice A3 a.env.length c3) = w4 at *
  have r6 := k5.row R4.out (by have := HK.out.2; simp; omega)
  obtain ⟨Y, hY⟩ : ∃ Y, anL a (.slice A3 a.env.length c3) = Y := ⟨_, rfl⟩
  have hYl : Y.length = 38 := by rw [← hY]; exact anL_len HL.out.2
  have hY1 : ∀ v ∈ Y, v.oneCell' = true := by rw [← hY]; exact anL_one a rfl
  rw [hY] at r5
  have HY := Lib.hid (And.intro hYl (And.intro hY1 hY))
  have R5 := Lib.hid r5
  have R6 := Lib.hid r6
  have RS := Lib.hid (r6.there (o := 0) (n := Y.toArray.size) (by simp only [List.size_toArray]; rw [hYl, HZ.out.2]; omega))
  clear r5 r6 hYl hY1 hY hf hy2
  go_wp2_with (first
    | (refine wpList_load_mid rfl 40 (.tmp 1) rfl w.heap.size 0 rfl Y _ R5.out.rangeAll Tryd.underlying40 rfl (by rw [HY.out.1]; exact info_an) ?_)
    | (refine wpList_store_mid rfl 40 (.tmp 2) (.tmp 7) rfl w1.heap.size 0 Y.toArray rfl rfl RS.out (by rw [List.size_toArray, HY.out.1]; exact info_an) (all_oneCell_toArray HY.out.2.1) ?_))
  have r7 := R6.out.setL (vs := Y) (o := 0)
  rw [putL_all (by simp only [List.size_toArray]; rw [HY.out.1, HZ.out.2])] at r7
  have k7 := (keepBut.refl [w1.heap.size] w4).setL (vs := Y) (g := w1.heap.size) (o := 0) (.inl (by simp))
  have s2 := N3.out.2.2.2.size
  have l1 := R4.out.lt
  have hlt : w1.heap.size < w2.heap.size := HR2.out.lt
  have hG : ∀ y ∈ G, y ≠ w.heap.size ∧ y ≠ w1.heap.size := fun y hy => by have := (N3.out.2.2.1 y hy).1; have := HK.out.2; omega
  have kk : keepBut [w.heap.size, w1.heap.size] w3 (w4.setCells w1.heap.size 0 Y) := (k5.more (by simp)).then k7 (by simp)
  have hGk : ∀ y ∈ G, y ∉ [w.heap.size, w1.heap.size] := fun y hy => by simp only [List.mem_cons, List.not_mem_nil, or_false, not_or]; exact hG y hy
  refine bodyPost_ret (results_cell_row rfl _ _ w1.heap.size 40 _ (0, 0) _ rfl r7 Tryd.underlying40 rfl (by rw [List.size_toArray, HY.out.1]; exact info_an)) rfl ?_
  have s0 := HK.out.1.size
  refine ⟨.slice A3 a.env.length c3, G, by rw [HY.out.2.2], N3.out.1.keep kk hGk, fun y hy => ?_, fun y hy => ⟨by have := (N3.out.2.2.1 y hy).1; omega, by have h1 := (N3.out.2.2.1 y hy).2; have h2 := kk.size; omega⟩, (HK.out.1.then N3.out.2.2.2 (by simp)).then kk (fun x hx => ?_)⟩
  · obtain ⟨cs, hc⟩ := N3.out.2.1 y hy
    exact ⟨cs, kk.row hc (hGk y hy)⟩
  · right
    simp only [List.mem_cons, List.not_mem_nil, or_false] at hx
    have := HK.out.2
    rcases hx with rfl | rfl <;> omega
end Go.Proofs.YtmlmhnhilemjhaaDoor
