/-
  SESS, 18: Conf.
-/
import Derived.Test.YtkpmlcgbffdloaaDoorSess17
namespace Go.Proofs.YtkpmlcgbffdloaaDoor
open Go.RowKit
set_option linter.unusedVariables false
set_option maxRecDepth 100000

def confQPost (s : SS) (w : World) (e : Ending) (w' : World) : Prop :=
  ∃ cv' G', e = .returned (.agg (cfL s.conf cv').toArray) ∧ intsV w' G' cv' s.conf.chain ∧ newIn w w' G' ∧ keepBut [] w w'
section
variable (p q : Nat) (s : SS) (cv ev : Value) (F K : List Nat) (T : List (PK × List Value)) (w : World) (h : isQ w p q s cv ev F K T)
include h
set_option maxHeartbeats 4000000 in
theorem confQ_any (hl : s.conf.chain.length ≤ 1000000) :
    Calls Tryd.prog 22 #[.pointer (some ⟨p, 0, none⟩)] w (confQPost s w) := by
  obtain ⟨Z, hZ⟩ : ∃ Z, cfL cfZero nilV = Z := ⟨_, rfl⟩
  have hzv := zv_cf
  have hZl : Z.length = 3 := by rw [← hZ]; rfl
  rw [hZ] at hzv
  have k1 := (keepBut.refl [] w).alloc (.cells Z.toArray 41)
  have r1 := rowAt.new w 41 Z.toArray
  have hs1 : (w.alloc (.cells Z.toArray 41)).heap.size = w.heap.size + 1 := World.size_alloc ..
  obtain ⟨w1, hw1⟩ : ∃ w1, w.alloc (.cells Z.toArray 41) = w1 := ⟨_, rfl⟩
  rw [hw1] at k1 r1 hs1
  have h1 := h.over k1
  obtain ⟨X, hX⟩ : ∃ X, cfL s.conf cv = X := ⟨_, rfl⟩
  have hXl : X.length = 3 := by rw [← hX]; rfl
  have hXo : ∀ u ∈ X, u.oneCell' = true := by rw [← hX]; exact cfL_one _ h.chain.one
  have rX : w1.rangeAt p 4 X := fun j v hv => by
    rw [← hX] at hv
    obtain ⟨_, _, _, _, y4, y5, y6, _⟩ := h1.cells
    match j, hv with
    | 0, hv => simp [cfL] at hv; subst hv; exact y4
    | 1, hv => simp [cfL] at hv; subst hv; exact y5
    | 2, hv => simp [cfL] at hv; subst hv; exact y6
  have hs := storedP (w := w1) (t := 41) (Z := Z) (X := X) (by rw [hXl, hZl])
  obtain ⟨w2, hw2⟩ : ∃ w2, (w1.alloc (.cells Z.toArray 41)).setCells w1.heap.size 0 X = w2 := ⟨_, rfl⟩
  rw [hw2] at hs
  obtain ⟨r2, k2⟩ := hs
  obtain ⟨d, hd⟩ : ∃ d, w.heap.size = d := ⟨_, rfl⟩
  obtain ⟨b, hb⟩ : ∃ b, w1.heap.size = b := ⟨_, rfl⟩
  rw [hd] at r1
  have hw2' := hw2
  rw [hb] at hw2' r2
  have r1' := k2.row r1 (by simp)
  have hbd : b = d + 1 := by omega
  have HS := Lib.hid (And.intro hd (And.intro hb (And.intro hs1 hbd)))
  have HW := Lib.hid (And.intro hw1 (And.intro hw2' (And.intro hzv hZl)))
  have HX := Lib.hid (And.intro hX (And.intro hXl (And.intro hXo rX)))
  have HR := Lib.hid (And.intro r2 (And.intro r1' (k1.then k2 (by simp))))
  have H1 := Lib.hid h1
  have HT := Lib.hid (there_newP (w := w1) (t := 41) (Z := Z) (X := X) (by rw [hXl, hZl]))
  have HCl := Lib.hid (cloneI_any F cv s.conf.chain w2 (h.chain.keep (k1.then k2 (by simp)) (by simp)) hl)
  have u2 : w2.cell? ⟨b, 2, none⟩ = some cv := by rw [r2.cell, ← hX]; rfl
  clear h h1 k1 k2 r1 r1' r2 hw1 hw2 hw2' hzv hZ hX hXo hXl hZl rX hs1 hl hbd
  go_enter Tryd.func22, Tryd.ntmps22
  go_upto_region 4 with (first
    | (with_reducible refine wpList_alloc_to _ _ rfl 41 rfl _ HW.out.2.2.1 HW.out.1 ?_)
    | (with_reducible refine wpList_alloc_to _ _ rfl 41 rfl _ HW.out.2.2.1 rfl ?_)
    | (go_at_call 42; refine (noneQ_any _ _ _ _ _ _ _ _ _ H1.out).mono ?_; rintro e w' ⟨rfl, rfl⟩)
    | (refine wpList_load_mid rfl 41 (.tmp 9) rfl p 4 rfl X _ HX.out.2.2.2 Tryd.underlying41 rfl (by rw [HX.out.2.1]; exact info_cf) ?_)
    | (refine wpList_store_mid rfl 41 (.tmp 3) (.tmp 10) rfl w1.heap.size 0 X.toArray rfl rfl HT.out (by rw [List.size_toArray, HX.out.2.1]; exact info_cf) (by simpa using HX.out.2.2.1) ?_))
  simp only [hb, HW.out.2.1]
  go_upto_region 5 with (first
    | (go_at_call 47; (with_reducible refine HCl.out.mono ?_); rintro e w3 ⟨v, rfl, G', hv, hG', k3⟩; obtain ⟨A3, c3, g3, hve, _⟩ := id hv; subst hve; have r3 := k3.row HR.out.1 (by simp); have u3 := r3.cell 2; rw [← HX.out.1] at u3; replace u3 : w3.cell? ⟨b, 2, none⟩ = some cv := u3; have f3 := r3.free 2; have H3 := Lib.hid (And.intro hv (And.intro hG' (And.intro k3 r3))); clear hv hG' k3 r3))
  have r4 := H3.out.2.2.2.set 2 (.slice A3 s.conf.chain.length c3)
  have e4 : X.toArray.setIfInBounds 2 (.slice A3 s.conf.chain.length c3) = (cfL s.conf (.slice A3 s.conf.chain.length c3)).toArray := by rw [← HX.out.1]; simp [cfL]
  rw [e4] at r4
  have k4 : keepBut [b] w3 (w3.setCell ⟨b, 2, none⟩ (.slice A3 s.conf.chain.length c3)) := (keepBut.refl _ _).setCell _ _ (.inl (by simp))
  have hne : d ≠ b := by have := HS.out; omega
  have q4 := k4.row (H3.out.2.2.1.row HR.out.2.1 (by simp)) (by simpa using hne)
  have hb2 := HR.out.1.lt
  have hv4 := H3.out.1.keep k4 (fun y hy hm => by
    have h1 := (H3.out.2.1 y hy).1
    simp only [List.mem_singleton] at hm
    omega)
  have hs3 := H3.out.2.2.2.lt
  have k34 := (HR.out.2.2.then H3.out.2.2.1 (by simp)).then k4 (fun y hy => .inr (by simp only [List.mem_singleton] at hy; have := HS.out; omega))
  have hs4 := k4.size
  generalize hw4 : w3.setCell ⟨b, 2, none⟩ (.slice A3 s.conf.chain.length c3) = w4 at r4 k4 q4 hv4 k34 hs4 ⊢
  obtain ⟨Y, hY⟩ : ∃ Y, cfL s.conf (.slice A3 s.conf.chain.length c3) = Y := ⟨_, rfl⟩
  have hYl : Y.length = 3 := by rw [← hY]; rfl
  have hYo : ∀ u ∈ Y, u.oneCell' = true := by rw [← hY]; exact cfL_one _ rfl
  rw [hY] at r4
  have HY := Lib.hid (And.intro hY (And.intro hYl hYo))
  have hth := q4.there (o := 0) (n := 3) (by rw [List.size_toArray, HW.out.2.2.2]; decide)
  have H4 := Lib.hid (And.intro r4.rangeAll (And.intro q4 (And.intro hv4 (And.intro k34 (And.intro hs4 (And.intro hb2 hth))))))
  clear r4 k4 q4 hv4 k34 hs4 hY hYl hYo hth hw4 e4 u3 f3 hne hb2 hs3 u2
  go_wp2_with (first
    | (refine wpList_load_mid rfl 41 (.tmp 3) rfl b 0 rfl Y _ H4.out.1 Tryd.underlying41 rfl (by rw [HY.out.2.1]; exact info_cf) ?_)
    | (refine wpList_store_mid rfl 41 (.tmp 2) (.tmp 15) rfl d 0 Y.toArray rfl rfl (by rw [List.size_toArray, HY.out.2.1]; exact H4.out.2.2.2.2.2.2) (by rw [List.size_toArray, HY.out.2.1]; exact info_cf) (by simpa using HY.out.2.2) ?_))
  have r9 := set0 H4.out.2.1 (show Y.length = Z.length by rw [HY.out.2.1, HW.out.2.2.2])
  have k5 : keepBut [d] w4 (w4.setCells d 0 Y) := (keepBut.refl _ _).setL (.inl (by simp))
  refine bodyPost_ret (results_cell_row rfl _ _ d 41 _ (0, 0) _ rfl r9 Tryd.underlying41 rfl (by rw [List.size_toArray, HY.out.2.1]; exact info_cf)) rfl ?_
  refine ⟨.slice A3 s.conf.chain.length c3, G', by rw [HY.out.1], H4.out.2.2.1.keep k5 (fun y hy hm => ?_), fun y hy => ⟨?_, ?_⟩, H4.out.2.2.2.1.then k5 (fun y hy => .inr ?_)⟩
  · have h1 := (H3.out.2.1 y hy).1
    have h2 := H4.out.2.2.2.2.2.1
    have h3 := HS.out
    simp only [List.mem_singleton] at hm
    omega
  · have h1 := (H3.out.2.1 y hy).1
    have h2 := HR.out.2.2.size
    omega
  · have h1 := (H3.out.2.1 y hy).2
    have h2 := H4.out.2.2.2.2.1
    have h3 := k5.size
    omega
  · have := HS.out
    simp only [List.mem_singleton] at hy
    omega
end
end Go.Proofs.YtkpmlcgbffdloaaDoor
