/-
  SESS, 7: a request in memory of its own.
-/
import Derived.Test.YtkpmlcgbffdloaaDoorSess6
import Derived.Laws.ResultCell
namespace Go.Proofs.YtkpmlcgbffdloaaDoor
open Go.RowKit
set_option linter.unusedVariables false
set_option maxRecDepth 100000

theorem rqL_set {r : RQ} {ev ev' : Value} (h : r.name.length = 32) : (rqL r ev).set 36 ev' = rqL r ev' := by
  have e : (nameL r.name).length = 32 := by rw [nameL_len, h]
  unfold rqL
  rw [show (36 : Nat) = 32 + 1 + 1 + 1 + 1 by rfl, List.set_cons_succ, List.set_cons_succ, List.set_cons_succ, List.set_cons_succ, List.set_append_right _ _ (by omega), e]
  rfl
theorem info_rqS : (Tryd.prog.info? 37).map (·.size) = some 37 := by kernel_rfl
def copiedP (r : RQ) (w : World) (e : Ending) (w' : World) : Prop := ∃ ev, e = .returned (.agg (rqL r ev).toArray) ∧ ∃ G, rqV w' G r ev ∧ newIn w w' G ∧ keepBut [] w w'
theorem copiedQ_any (F : List Nat) (r : RQ) (ev : Value) (w : World) (h : rqV w F r ev) (hn : r.env.length ≤ 1000000) :
    Calls Tryd.prog 53 #[.agg (rqL r ev).toArray] w (copiedP r w) := by
  obtain ⟨hnm, he⟩ := h
  have hXl : (rqL r ev).length = 37 := rqL_len hnm
  have x36 := rqL_env (ev := ev) hnm
  obtain ⟨X, hX⟩ : ∃ X, rqL r ev = X := ⟨_, rfl⟩
  rw [hX] at hXl x36 ⊢
  have r1 := rowAt.new w 37 X.toArray
  have k1 := (keepBut.refl [] w).alloc (.cells X.toArray 37)
  obtain ⟨w1, hw1⟩ : ∃ w1, w.alloc (.cells X.toArray 37) = w1 := ⟨_, rfl⟩
  rw [hw1] at r1 k1
  obtain ⟨Z, hZ⟩ : ∃ Z, rqL rqZero nilV = Z := ⟨_, rfl⟩
  have hzv := zv_rq
  rw [hZ] at hzv
  have hZl : Z.length = 37 := by rw [← hZ]; exact rqL_len rqZero_name
  have r2 := rowAt.new w1 37 Z.toArray
  have k2 := (keepBut.refl [] w1).alloc (.cells Z.toArray 37)
  have hs1 : w1.heap.size = w.heap.size + 1 := by rw [← hw1]; exact World.size_alloc ..
  obtain ⟨w2, hw2⟩ : ∃ w2, w1.alloc (.cells Z.toArray 37) = w2 := ⟨_, rfl⟩
  have hs2 : w2.heap.size = w1.heap.size + 1 := by rw [← hw2]; exact World.size_alloc ..
  rw [hw2] at r2 k2
  have r1b := k2.row r1 (by simp)
  have c36 : w2.cell? ⟨w.heap.size, 36, none⟩ = some ev := by rw [r1b.cell]; exact x36
  have HW := Lib.hid (And.intro hw1 (And.intro hw2 (And.intro hzv (And.intro hs1 hs2))))
  have HX := Lib.hid (And.intro hX (And.intro hXl (And.intro hZl hnm)))
  have HR := Lib.hid (And.intro r1b (And.intro r2 (k1.then k2 (by simp))))
  have HE := Lib.hid (cloneB_any F ev r.env w2 (he.keep (k1.then k2 (by simp)) (by simp)) hn)
  clear hw1 hw2 hzv hs1 hs2 hX hXl hZl hnm r1 r2 r1b k1 k2 hZ he x36
  go_enter Tryd.func53, Tryd.ntmps53
  go_upto_region 1 with (first | (with_reducible refine wpList_box_to _ _ rfl 37 (.tmp 0) rfl _ rfl HW.out.1 ?_) | (with_reducible refine wpList_alloc_to _ _ rfl 37 rfl _ HW.out.2.2.1 HW.out.2.1 ?_))
  go_upto_region 2 with (first | (go_at_call 59; (with_reducible refine HE.out.mono ?_); rintro e w3 ⟨v, rfl, G, hv, hG, k3⟩; obtain ⟨A3, c3, g3, hve, _⟩ := id hv; subst hve; have r3 := k3.row HR.out.1 (by simp); obtain ⟨y36, hy36⟩ : ∃ y, X.toArray[36]? = some y := ⟨_, Array.getElem?_eq_getElem (by rw [List.size_toArray, HX.out.2.1]; decide)⟩; have y3 := (r3.cell 36).trans hy36; have f3 := r3.free 36; have H3 := Lib.hid (And.intro hv (And.intro hG (And.intro k3 r3))); clear hv hG k3 r3 hy36))
  have hr4 : rowAt (w3.setCell ⟨w.heap.size, 36, none⟩ (.slice A3 r.env.length c3)) w.heap.size 37 (rqL r (.slice A3 r.env.length c3)).toArray := by
    have h := H3.out.2.2.2.set 36 (.slice A3 r.env.length c3)
    have e : X.toArray.setIfInBounds 36 (.slice A3 r.env.length c3) = (rqL r (.slice A3 r.env.length c3)).toArray := by rw [← HX.out.1, ← rqL_set (ev := ev) (ev' := .slice A3 r.env.length c3) HX.out.2.2.2]; simp
    rw [e] at h
    exact h
  have hk4 : keepBut [] w (w3.setCell ⟨w.heap.size, 36, none⟩ (.slice A3 r.env.length c3)) := (HR.out.2.2.then H3.out.2.2.1 (by simp)).setCell _ _ (.inr (Nat.le_refl _))
  have hne : w1.heap.size ≠ w.heap.size := by have := HW.out.2.2.2.1; omega
  have hz4 : rowAt (w3.setCell ⟨w.heap.size, 36, none⟩ (.slice A3 r.env.length c3)) w1.heap.size 37 Z.toArray := ((keepBut.refl [w.heap.size] w3).setCell _ _ (.inl (by simp))).row (H3.out.2.2.1.row HR.out.2.1 (by simp)) (by simpa using hne)
  have hb4 : bytesV (w3.setCell ⟨w.heap.size, 36, none⟩ (.slice A3 r.env.length c3)) G (.slice A3 r.env.length c3) r.env := H3.out.1.keep ((keepBut.refl [w.heap.size] w3).setCell _ _ (.inl (by simp))) (fun y hy hm => by
    have h1 := (H3.out.2.1 y hy).1
    have h2 := HW.out.2.2.2.1
    have h3 := HW.out.2.2.2.2
    simp only [List.mem_singleton] at hm
    omega)
  have hs4 : w3.heap.size ≤ (w3.setCell ⟨w.heap.size, 36, none⟩ (.slice A3 r.env.length c3)).heap.size := ((keepBut.refl [w.heap.size] w3).setCell _ _ (.inl (by simp))).size
  generalize hw4 : w3.setCell ⟨w.heap.size, 36, none⟩ (.slice A3 r.env.length c3) = w4 at hr4 hk4 hz4 hb4 hs4 ⊢
  have hYl : (rqL r (.slice A3 r.env.length c3)).length = 37 := rqL_len HX.out.2.2.2
  have hYo : ∀ u ∈ rqL r (.slice A3 r.env.length c3), u.oneCell' = true := rqL_one r rfl
  generalize hv : Value.slice A3 r.env.length c3 = v at *
  generalize hY : rqL r v = Y at *
  have r6 := hz4.setL (vs := Y) (o := 0)
  rw [putL_all (by rw [List.size_toArray, hYl, HX.out.2.2.1])] at r6
  have HZ := Lib.hid (And.intro hr4 (And.intro hk4 (And.intro hz4 (And.intro hb4 (And.intro hs4 (And.intro hYl (And.intro hYo (And.intro hY (And.intro hw4 hv)))))))))
  have R6 := Lib.hid r6
  clear hr4 hk4 hz4 hb4 hs4 hYl hYo hY hw4 hv r6 y3 f3 c36
  go_wp2_with (first | (refine wpList_load_mid rfl 37 (.tmp 1) rfl w.heap.size 0 rfl Y _ HZ.out.1.rangeAll Tryd.underlying37 rfl (by rw [HZ.out.2.2.2.2.2.1]; exact info_rqS) ?_) | (refine wpList_store_mid rfl 37 (.tmp 2) (.tmp 7) rfl w1.heap.size 0 Y.toArray rfl rfl (HZ.out.2.2.1.there (by simp only [List.size_toArray]; rw [HZ.out.2.2.2.2.2.1, HX.out.2.2.1]; decide)) (by rw [List.size_toArray, HZ.out.2.2.2.2.2.1]; exact info_rqS) (by simpa using HZ.out.2.2.2.2.2.2.1) ?_))
  refine bodyPost_end (results_cell_row rfl _ _ w1.heap.size 37 _ (0, 0) _ rfl R6.out Tryd.underlying37 rfl (by rw [List.size_toArray, HZ.out.2.2.2.2.2.1]; exact info_rqS)) rfl ?_
  have k6 : keepBut [] w (w4.setCells w1.heap.size 0 Y) := HZ.out.2.1.setL (.inr (by have := HW.out.2.2.2.1; omega))
  have k46 : keepBut [w1.heap.size] w4 (w4.setCells w1.heap.size 0 Y) := (keepBut.refl _ _).setL (.inl (by simp))
  refine ⟨v, by rw [HZ.out.2.2.2.2.2.2.2.1], G, ⟨HX.out.2.2.2, HZ.out.2.2.2.1.keep k46 (fun y hy hm => ?_)⟩, fun y hy => ?_, k6⟩
  · have h1 := (H3.out.2.1 y hy).1
    have h2 := HW.out.2.2.2.2
    simp only [List.mem_singleton] at hm
    omega
  · have h1 := H3.out.2.1 y hy
    have h2 := HR.out.2.2.size
    have h3 := k46.size
    have h4 := HZ.out.2.2.2.2.1
    omega
end Go.Proofs.YtkpmlcgbffdloaaDoor
