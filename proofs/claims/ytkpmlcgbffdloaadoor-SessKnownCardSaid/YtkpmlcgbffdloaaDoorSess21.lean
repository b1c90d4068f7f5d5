/-
  SESS, 21: the law's own helpers: a request, a config's packet, what is asked, a session that has begun.
-/
import Derived.Test.YtkpmlcgbffdloaaDoorSess20
namespace Go.Proofs.YtkpmlcgbffdloaaDoor
open Go.RowKit
set_option linter.unusedVariables false
set_option maxRecDepth 100000
set_option linter.unusedSimpArgs false

def getR (c : UInt8) : RQ := ⟨0, 0, 1, 0, c :: List.replicate 31 0, []⟩
theorem getR_cells (c : UInt8) : (rqL (getR c) nilV).toArray = #[.int .i64 0, .int .i64 0, .int .i64 1, .int .i64 0, .int .u8 (c.toNat : Int), .int .u8 0, .int .u8 0, .int .u8 0, .int .u8 0, .int .u8 0, .int .u8 0, .int .u8 0, .int .u8 0, .int .u8 0, .int .u8 0, .int .u8 0, .int .u8 0, .int .u8 0, .int .u8 0, .int .u8 0, .int .u8 0, .int .u8 0, .int .u8 0, .int .u8 0, .int .u8 0, .int .u8 0, .int .u8 0, .int .u8 0, .int .u8 0, .int .u8 0, .int .u8 0, .int .u8 0, .int .u8 0, .int .u8 0, .int .u8 0, .int .u8 0, .slice none 0 0] := rfl
theorem getR_val (w : World) (F : List Nat) (c : UInt8) : rqV w F (getR c) nilV := ⟨by simp [getR], bytesV.nil _ _⟩
set_option maxHeartbeats 4000000 in
theorem get_any (c : UInt8) (w : World) :
    Calls Tryd.prog 20 #[.int .u8 (c.toNat : Int)] w fun e w' => e = .returned (.agg (rqL (getR c) nilV).toArray) ∧ keepBut [] w w' := by
  obtain ⟨Z, hZ⟩ : ∃ Z, rqL rqZero nilV = Z := ⟨_, rfl⟩
  have hzv := zv_rq
  have hzl := rqZ_len
  rw [hZ] at hzv hzl
  obtain ⟨w1, hw1⟩ : ∃ w1, w.alloc (.cells Z.toArray 37) = w1 := ⟨_, rfl⟩
  have HW := Lib.hid (And.intro hw1 (And.intro hzv hzl))
  obtain ⟨Y, hY⟩ : ∃ Y, rqL (getR c) nilV = Y := ⟨_, rfl⟩
  have hYl : Y.length = 37 := by rw [← hY]; exact rqL_len (getR_val w [] c).1
  have HY := Lib.hid (And.intro hY (And.intro hYl (show ∀ u ∈ Y, u.oneCell' = true by rw [← hY]; exact rqL_one _ rfl)))
  have HE := Lib.hid (congrArg Value.agg ((getR_cells c).symm.trans (congrArg List.toArray hY)))
  have r1 := rowAt.new w 37 Z.toArray
  have k1 := (keepBut.refl [] w).alloc (.cells Z.toArray 37)
  rw [hw1] at r1 k1
  have R1 := Lib.hid (And.intro r1 (And.intro k1 (r1.there (o := 0) (n := 37) (by rw [List.size_toArray, hzl]; decide))))
  clear hw1 hzv hzl hZ hY hYl r1 k1
  have HTH := Lib.hid (show w1.there w.heap.size 0 Y.toArray.size by rw [show Y.toArray.size = 37 by rw [List.size_toArray]; exact HY.out.2.1]; exact R1.out.2.2)
  go_enter Tryd.func20, Tryd.ntmps20
  go_upto_region 1 with (first
    | (with_reducible refine wpList_alloc_to _ _ rfl 37 rfl _ HW.out.2.1 HW.out.1 ?_))
  go_wp2_with (first
    | (refine wpList_store_mid rfl 37 (.tmp 2) (.tmp 5) rfl w.heap.size 0 Y.toArray rfl HE.out HTH.out (by rw [List.size_toArray, HY.out.2.1]; exact info_rqS) (by simpa using HY.out.2.2) ?_))
  have r9 := set0 R1.out.1 (show Y.length = Z.length by rw [HY.out.2.1, HW.out.2.2])
  have k9 : keepBut [] w (w1.setCells w.heap.size 0 Y) := R1.out.2.1.setL (.inr (Nat.le_refl _))
  refine bodyPost_ret (results_cell_row rfl _ _ w.heap.size 37 _ (0, 0) _ rfl r9 Tryd.underlying37 rfl (by rw [List.size_toArray, HY.out.2.1]; exact info_rqS)) rfl ?_
  exact ⟨by rw [HY.out.1], k9⟩
def confK (node num : Int) (l : List Int) : PK := ⟨7, 0, node, 0, 0, 0, false, rqZero, anZero, ⟨num, 1, l⟩, [], []⟩
theorem confK_val {w : World} {F : List Nat} {v : Value} {l : List Int} (node num : Int) (h : intsV w F v l) : pkV w F (confK node num l) nilV nilV v nilV nilV :=
  ⟨rqZero_name, anZero_name, bytesV.nil _ _, bytesV.nil _ _, h, votesV.nil _ _, bytesV.nil _ _⟩
theorem confCells (node num : Int) (l : List Int) (v : Value) : ((((Tryd.zeroCells44.setIfInBounds 0 (.int .i64 7)).setIfInBounds 2 (.int .i64 node)).setIfInBounds 82 (.int .i64 num)).setIfInBounds 83 (.int .i64 1)).setIfInBounds 84 v = (pkL (confK node num l) nilV nilV v nilV nilV).toArray := by kernel_rfl
set_option maxHeartbeats 4000000 in
theorem confF_any (node num : Int) (l : List Int) (v : Value) (F : List Nat) (w : World) (h : intsV w F v l) :
    Calls Tryd.prog 21 #[.int .i64 node, .int .i64 num, v] w fun e w' => e = .returned (.agg (pkL (confK node num l) nilV nilV v nilV nilV).toArray) ∧ keepBut [] w w' := by
  obtain ⟨Z, hZ⟩ : ∃ Z, pkL pkZero nilV nilV nilV nilV nilV = Z := ⟨_, rfl⟩
  have hzv := zv_pk
  have hzl := pkZ_len
  rw [hZ] at hzv hzl
  have hB0 := congrArg Value.agg (confCells node num l v)
  have hv1 := h.one
  obtain ⟨Y, hY⟩ : ∃ Y, pkL (confK node num l) nilV nilV v nilV nilV = Y := ⟨_, rfl⟩
  have hYl : Y.length = 87 := by rw [← hY]; exact pkL_len rqZero_name anZero_name
  have HY := Lib.hid (And.intro hY (And.intro hYl (show ∀ u ∈ Y, u.oneCell' = true by rw [← hY]; exact pkL_one rfl rfl h.one rfl rfl)))
  rw [hY] at hB0 ⊢
  have HB0 := Lib.hid hB0
  clear hB0
  have r1 := rowAt.new w 44 Z.toArray
  have k1 := (keepBut.refl [] w).alloc (.cells Z.toArray 44)
  obtain ⟨w1, hw1⟩ : ∃ w1, w.alloc (.cells Z.toArray 44) = w1 := ⟨_, rfl⟩
  rw [hw1] at r1 k1
  have HW := Lib.hid (And.intro hw1 (And.intro hzv hzl))
  have R1 := Lib.hid (And.intro r1 (And.intro k1 (r1.there (o := 0) (n := 87) (by rw [List.size_toArray, hzl]; decide))))
  obtain ⟨A, c, g, rfl, _⟩ := h
  clear hw1 hzv hzl hZ hY hYl r1 k1
  have HTH := Lib.hid (show w1.there w.heap.size 0 Y.toArray.size by rw [show Y.toArray.size = 87 by rw [List.size_toArray]; exact HY.out.2.1]; exact R1.out.2.2)
  go_enter Tryd.func21, Tryd.ntmps21
  go_upto_region 1 with (first
    | (with_reducible refine wpList_alloc_to _ _ rfl 44 rfl _ HW.out.2.1 HW.out.1 ?_))
  go_wp2_with (first
    | (refine wpList_store_mid rfl 44 (.tmp 6) (.tmp 11) rfl w.heap.size 0 Y.toArray rfl HB0.out HTH.out (by rw [List.size_toArray, HY.out.2.1]; exact info_pkS) (by simpa using HY.out.2.2) ?_))
  have r9 := set0 R1.out.1 (show Y.length = Z.length by rw [HY.out.2.1, HW.out.2.2])
  have k9 : keepBut [] w (w1.setCells w.heap.size 0 Y) := R1.out.2.1.setL (.inr (Nat.le_refl _))
  refine bodyPost_ret (results_cell_row rfl _ _ w.heap.size 44 _ (0, 0) _ rfl r9 Tryd.underlying44 rfl (by rw [List.size_toArray, HY.out.2.1]; exact info_pkS)) rfl ?_
  exact ⟨rfl, k9⟩
/-- what asks answers -/
def asksP (s : SS) (r : RQ) (n e : Int) : Bool := decide ((s.askP r).1.1 = n) && decide ((s.askP r).1.2 = e)
def asksOn (N : List Nat) (w : World) (p q : Nat) (s : SS) (r : RQ) (n e : Int) (x : Ending) (w' : World) : Prop := x = .returned (.bool (asksP s r n e)) ∧ sOn N w' p q (s.askP r).2 ∧ keepBut [p] w w'
set_option maxHeartbeats 4000000 in
theorem asks_any {N : List Nat} {w : World} {p q : Nat} {s : SS} (h : sOn N w p q s) {G : List Nat} {r : RQ} {rv : Value} (hr : rqV w G r rv) (hsz : sizesAt w) (n e : Int) :
    Calls Tryd.prog 19 #[.pointer (some ⟨p, 0, none⟩), .agg (rqL r rv).toArray, .int .i64 n, .int .i64 e] w (asksOn N w p q s r n e) := by
  have k1 := (keepBut.refl [] w).alloc (.cells (rqL r rv).toArray 37)
  have r1 := rowAt.new w 37 (rqL r rv).toArray
  obtain ⟨w1, hw1⟩ : ∃ w1, w.alloc (.cells (rqL r rv).toArray 37) = w1 := ⟨_, rfl⟩
  rw [hw1] at k1 r1
  have HA := Lib.hid ((h.over k1).ask (r := r) (rv := rv) (G := G) ⟨hr.1, hr.2.keep k1 (by simp)⟩ (hsz.keep k1 (by simp)))
  have hXl := rqL_len (ev := rv) hr.1
  obtain ⟨X, hX⟩ : ∃ X, rqL r rv = X := ⟨_, rfl⟩
  rw [hX] at hw1 r1 HA hXl ⊢
  have HR := Lib.hid (And.intro r1.rangeAll (And.intro hXl k1))
  have HW := Lib.hid hw1
  obtain ⟨a, ha⟩ : ∃ a, s.askP r = a := ⟨_, rfl⟩
  have HP := Lib.hid (show asksP s r n e = (decide (a.1.1 = n) && decide (a.1.2 = e)) by rw [← ha]; rfl)
  rw [ha] at HA
  have HE := Lib.hid ha
  clear hw1 r1 k1 h hr hsz hX hXl ha
  have cs : (a.1.1 == n) = true ∨ (a.1.1 == n) = false := by cases (a.1.1 == n) <;> simp
  have cs2 : (a.1.2 == e) = true ∨ (a.1.2 == e) = false := by cases (a.1.2 == e) <;> simp
  rcases cs with c1 | c1 <;> rcases cs2 with c2 | c2
  all_goals
    have HB := Lib.hid (And.intro c1 c2)
    go_enter Tryd.func19, Tryd.ntmps19
    go_wp2_with (first
      | (with_reducible refine wpList_box_to _ _ rfl 37 (.tmp 1) rfl _ rfl HW.out ?_)
      | (refine wpList_load_mid rfl 37 (.tmp 5) rfl w.heap.size 0 rfl X _ HR.out.1 Tryd.underlying37 rfl (by rw [HR.out.2.1]; exact info_rqS) ?_)
      | (go_at_call 28; (with_reducible refine HA.out.mono ?_); rintro x w2 ⟨rfl, h2, k2⟩; have H2 := Lib.hid (And.intro h2 k2); clear h2 k2))
    go_ret
    refine ⟨?_, by rw [HE.out]; exact H2.out.1, (HR.out.2.2.more (by simp)).then H2.out.2 (fun x hx => .inl hx)⟩
    rw [HP.out]
    obtain ⟨d1, d2⟩ := HB.out
    simp only [beq_iff_eq, beq_eq_false_iff_ne, ne_eq] at d1 d2
    simp [d1, d2]
end Go.Proofs.YtkpmlcgbffdloaaDoor
