/-
  VIEW: Node, Until.
-/
import Derived.Test.YtjipokilidhnoaaViewPick
namespace Go.Proofs.Ytjipokilidhnoaa
open Go.RowKit Go.Shelf
set_option linter.unusedVariables false
set_option maxRecDepth 100000
attribute [local go_sem] Oper.semAt_some

theorem somePost.back {l : List VR} {w w1 w' : World} {e : Ending} (h : somePost l w1 e w') (hk : keepBut [] w w1) : somePost l w e w' := by
  obtain ⟨q, G, h1, h2, h3, h4⟩ := h
  exact ⟨q, G, h1, h2, fun y hy => Nat.le_trans hk.size (h3 y hy), hk.then h4 (by simp)⟩
set_option maxHeartbeats 1000000 in
theorem nodeV_any (p : Nat) (F : List Nat) (l : List VR) (m : Int) (w : World) (h : isV w p F l) (hl : l.length ≤ 20000) :
    Calls Try.prog 15 #[.pointer (some ⟨p, 0, none⟩), .int .i64 m] w (somePost (l.filter (fun r => r.node == m)) w) := by
  have ka := (keepBut.refl [] w).alloc (.cells #[.int .i64 m] 3)
  have hx := cellNewV w (.int .i64 m) 3
  have h1 := h.over ka
  have HH := Lib.hid (And.intro h1 (And.intro ka hx))
  clear h ka hx h1
  go_enter Try.func15, Try.ntmps15
  go_wp2_with fail
  refine (someV_any p F l 41 w.heap.size (.int .i64 m) (fun r => r.node == m) _ HH.out.1 hl HH.out.2.2 (enters_of Try.func41 (by kernel_rfl) rfl) (fun W s nd kd b A c hX => nodeF_in Fence.wide 8 trivial rfl _ m s nd kd A b.length c W hX)).mono ?_
  intro e w' hp
  have hb := hp.back HH.out.2.1
  obtain ⟨q, G, rfl, h2, h3, h4⟩ := hb
  go_wp2_with fail
  go_ret
  exact ⟨q, G, rfl, h2, h3, h4⟩
set_option maxHeartbeats 1000000 in
theorem untilV_any (p : Nat) (F : List Nat) (l : List VR) (m : Int) (w : World) (h : isV w p F l) (hl : l.length ≤ 20000) :
    Calls Try.prog 19 #[.pointer (some ⟨p, 0, none⟩), .int .i64 m] w (somePost (l.filter (fun r => decide (r.step ≤ m))) w) := by
  have ka := (keepBut.refl [] w).alloc (.cells #[.int .i64 m] 3)
  have hx := cellNewV w (.int .i64 m) 3
  have h1 := h.over ka
  have HH := Lib.hid (And.intro h1 (And.intro ka hx))
  clear h ka hx h1
  go_enter Try.func19, Try.ntmps19
  go_wp2_with fail
  refine (someV_any p F l 45 w.heap.size (.int .i64 m) (fun r => decide (r.step ≤ m)) _ HH.out.1 hl HH.out.2.2 (enters_of Try.func45 (by kernel_rfl) rfl) (fun W s nd kd b A c hX => untilF_in Fence.wide 8 trivial rfl _ m s nd kd A b.length c W hX)).mono ?_
  intro e w' hp
  have hb := hp.back HH.out.2.1
  obtain ⟨q, G, rfl, h2, h3, h4⟩ := hb
  go_wp2_with fail
  go_ret
  exact ⟨q, G, rfl, h2, h3, h4⟩
end Go.Proofs.Ytjipokilidhnoaa
