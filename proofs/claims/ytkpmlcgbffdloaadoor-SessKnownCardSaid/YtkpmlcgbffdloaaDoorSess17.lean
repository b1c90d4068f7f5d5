/-
  SESS, 17: Take.
-/
import Derived.Test.YtkpmlcgbffdloaaDoorSess16
namespace Go.Proofs.YtkpmlcgbffdloaaDoor
open Go.RowKit
set_option linter.unusedVariables false
set_option maxRecDepth 100000

def SS.takeP (s : SS) (p : PK) : (AN × Bool) × SS :=
  if p.dst = 20 + s.client then (if p.kind = 7 then ((anZero, false), s.learn p.conf) else if p.kind = 2 then s.ansP p.ans else ((anZero, false), s)) else ((anZero, false), s)
def takePost (p q : Nat) (x : (AN × Bool) × SS) (ev : Value) (F K : List Nat) (T : List (PK × List Value)) (w : World) (e : Ending) (w' : World) : Prop :=
  ∃ av G cv' G', e = .returned (.tuple #[.agg (anL x.1.1 av).toArray, .bool x.1.2]) ∧ anV w' G x.1.1 av ∧ newIn w w' G ∧ isQ w' p q x.2 cv' ev (F ++ G') K T ∧ newIn w w' G' ∧ keepBut [p] w w'
theorem set0 {w : World} {d : Nat} {t : TypeId} {Z Y : List Value} (r : rowAt w d t Z.toArray) (h : Y.length = Z.length) : rowAt (w.setCells d 0 Y) d t Y.toArray := by
  have := r.setL (vs := Y) (o := 0)
  rwa [putL_all (by rw [List.size_toArray]; exact h)] at this
section
variable (p q : Nat) (s : SS) (cv ev : Value) (F K : List Nat) (T : List (PK × List Value)) (x : PK) (xe xa xc xv xb : Value) (w : World) (h : isQ w p q s cv ev F K T)
include h
set_option maxHeartbeats 4000000 in
theorem takeQ_far (hb : 0 ≤ s.client ∧ s.client ≤ 2) (G : List Nat) (hx : pkV w G x xe xa xc xv xb) (hc : ¬ x.dst = 20 + s.client) :
    Calls Tryd.prog 17 #[.pointer (some ⟨p, 0, none⟩), .agg (pkL x xe xa xc xv xb).toArray] w (takePost p q ((anZero, false), s) ev F K T w) := by
  have hXl := pkL_len (p := x) (ev := xe) (av := xa) (cv := xc) (vv := xv) (bw := xb) hx.rn hx.an
  have x2 : (pkL x xe xa xc xv xb).toArray[2]? = some (.int .i64 x.dst) := rfl
  have HCt := Lib.hid (fun w' => contents_any x xe xa xc xv xb w' hx.rn hx.an)
  obtain ⟨X, hX⟩ : ∃ X, pkL x xe xa xc xv xb = X := ⟨_, rfl⟩
  rw [hX] at hXl x2 HCt ⊢
  obtain ⟨Z, hZ⟩ : ∃ Z, anL anZero nilV = Z := ⟨_, rfl⟩
  have hzv := zv_an
  have hzl := anZ_len
  have hz1 := anZ_one
  rw [hZ] at hzv hzl hz1
  have k1 := (keepBut.refl [] w).alloc (.cells X.toArray 44)
  have r1 := rowAt.new w 44 X.toArray
  have hs1 : (w.alloc (.cells X.toArray 44)).heap.size = w.heap.size + 1 := World.size_alloc ..
  obtain ⟨w1, hw1⟩ : ∃ w1, w.alloc (.cells X.toArray 44) = w1 := ⟨_, rfl⟩
  rw [hw1] at k1 r1 hs1
  have k2 := (keepBut.refl [] w1).alloc (.cells Z.toArray 39)
  have r2 := rowAt.new w1 39 Z.toArray
  obtain ⟨w2, hw2⟩ : ∃ w2, w1.alloc (.cells Z.toArray 39) = w2 := ⟨_, rfl⟩
  rw [hw2] at k2 r2
  have r1' := k2.row r1 (by simp)
  have k12 := k1.then k2 (by simp)
  have h2 := h.over k12
  obtain ⟨b, hbb⟩ : ∃ b, w.heap.size = b := ⟨_, rfl⟩
  obtain ⟨d, hd⟩ : ∃ d, w1.heap.size = d := ⟨_, rfl⟩
  have HS := Lib.hid (And.intro hbb (And.intro hd hs1))
  have hpw := h.row.lt
  have hqw := h.ch.lt
  rw [hbb] at r1'
  rw [hd] at r2
  have y2 := (r1'.cell 2).trans x2
  have HZ := Lib.hid (And.intro hZ (And.intro hzl (And.intro hz1 (And.intro hpw hqw))))
  have HW := Lib.hid (And.intro hw1 (And.intro hw2 hzv))
  have HZE := Lib.hid (congrArg Value.agg (anZero_cells.symm.trans (congrArg List.toArray hZ)))
  have R2 := Lib.hid (And.intro r2 (And.intro k12 (And.intro h h2)))
  have R1 := Lib.hid (And.intro r1' hXl)
  have HX := Lib.hid (And.intro hx hb)
  have hne : (x.dst != 20 + s.client) = true := by simp [hc]
  clear h h2 k1 r1 k2 r2 k12 hw1 hw2 hzv hzl hz1 hs1 hX x2 hpw hqw r1' hZ hXl hx hb hc
  go_enter Tryd.func17, Tryd.ntmps17
  go_upto_region 1 with (first
    | (with_reducible refine wpList_box_to _ _ rfl 44 (.tmp 1) rfl _ rfl HW.out.1 ?_)
    | (with_reducible refine wpList_alloc_to _ _ rfl 39 rfl _ HW.out.2.2 HW.out.2.1 ?_))
  try simp only [hbb, hd]
  go_quiet ((first
    | (go_at_call 42; exact Calls.quiet_of_same ((noneQ_any _ _ _ _ _ _ _ _ _ (R2.out.2.2.2.over ((keepBut.refl [] w2).drewN _))).mono (fun _ _ ⟨a, b⟩ => ⟨a, b.symm⟩)))
    | (go_at_call 43; exact Calls.quiet_of_same ((nodeQ_any _ _ _ _ _ _ _ _ _ (R2.out.2.2.2.over ((keepBut.refl [] w2).drewN _)) HX.out.2).mono (fun _ _ ⟨a, b⟩ => ⟨a, b.symm⟩)))))
  have k3 : keepBut [] w2 (w2.drewN nq) := (keepBut.refl [] w2).drewN nq
  generalize w2.drewN nq = w3 at k3 ⊢
  have kw3 := R2.out.2.1.then k3 (by simp)
  have H3 := Lib.hid (And.intro kw3 (And.intro (R2.out.2.2.1.over kw3) (And.intro (k3.row R1.out.1 (by simp)) (And.intro (k3.row R2.out.1 (by simp)) (k3.row R2.out.1 (by simp)).lt))))
  clear k3 kw3 y2
  have hth := (H3.out.2.2.2.1).there (o := 0) (n := 38) (by rw [List.size_toArray, HZ.out.2.1]; decide)
  have HT := Lib.hid hth
  clear hth
  go_wp2_with (first
    | (refine wpList_store_mid rfl 39 (.tmp 4) (.tmp 17) rfl d 0 Z.toArray rfl HZE.out (by rw [List.size_toArray, HZ.out.2.1]; exact HT.out) (by rw [List.size_toArray, HZ.out.2.1]; exact info_anS) (by simpa using HZ.out.2.2.1) ?_))
  have r9 := set0 (H3.out.2.2.2.1) (rfl : Z.length = Z.length)
  have hdd : w.heap.size ≤ d := by have := HS.out; omega
  have k9 : keepBut [] w (w3.setCells d 0 Z) ∨ True := .inr trivial
  refine bodyPost_ret (results_row_tmp rfl _ _ d 39 _ (0, 0) _ rfl r9 Tryd.underlying39 rfl (by rw [List.size_toArray, HZ.out.2.1]; exact info_anS)) rfl ?_
  have k5 : keepBut [d] w3 (w3.setCells d 0 Z) := (keepBut.refl _ _).setL (.inl (by simp))
  refine ⟨nilV, [], _, [], by rw [HZ.out.1]; rfl, anZero_val _ _, by simp [newIn], (show isQ w3 p q s cv ev (F ++ []) K T by rw [List.append_nil]; exact H3.out.2.1).keep k5 ?_ ?_ (fun y hy hm => ?_) (fun y hy hm => ?_), by simp [newIn], (show keepBut [p] w w3 from H3.out.1.more (by simp)).then k5 (fun y hy => .inr ?_)⟩
  · have := HZ.out.2.2.2; have := HS.out; simp only [List.mem_singleton]; omega
  · have := HZ.out.2.2.2; have := HS.out; simp only [List.mem_singleton]; omega
  · simp only [List.mem_singleton] at hm
    have h1 := (R2.out.2.2.1.far y (by simp only [List.append_nil] at hy; simp [hy])).1
    have := HS.out
    omega
  · simp only [List.mem_singleton] at hm
    have h1 := (R2.out.2.2.1.far y (by simp [hy])).1
    have := HS.out
    omega
  · simp only [List.mem_singleton] at hy; have := HS.out; omega
set_option maxHeartbeats 4000000 in
theorem takeQ_other (hb : 0 ≤ s.client ∧ s.client ≤ 2) (G : List Nat) (hx : pkV w G x xe xa xc xv xb) (hc : x.dst = 20 + s.client) (h7 : x.kind ≠ 7) (hk2 : x.kind ≠ 2) :
    Calls Tryd.prog 17 #[.pointer (some ⟨p, 0, none⟩), .agg (pkL x xe xa xc xv xb).toArray] w (takePost p q ((anZero, false), s) ev F K T w) := by
  have hXl := pkL_len (p := x) (ev := xe) (av := xa) (cv := xc) (vv := xv) (bw := xb) hx.rn hx.an
  have x2 : (pkL x xe xa xc xv xb).toArray[2]? = some (.int .i64 x.dst) := rfl
  have HCt := Lib.hid (fun w' => contents_any x xe xa xc xv xb w' hx.rn hx.an)
  obtain ⟨X, hX⟩ : ∃ X, pkL x xe xa xc xv xb = X := ⟨_, rfl⟩
  rw [hX] at hXl x2 HCt ⊢
  obtain ⟨Z, hZ⟩ : ∃ Z, anL anZero nilV = Z := ⟨_, rfl⟩
  have hzv := zv_an
  have hzl := anZ_len
  have hz1 := anZ_one
  rw [hZ] at hzv hzl hz1
  have k1 := (keepBut.refl [] w).alloc (.cells X.toArray 44)
  have r1 := rowAt.new w 44 X.toArray
  have hs1 : (w.alloc (.cells X.toArray 44)).heap.size = w.heap.size + 1 := World.size_alloc ..
  obtain ⟨w1, hw1⟩ : ∃ w1, w.alloc (.cells X.toArray 44) = w1 := ⟨_, rfl⟩
  rw [hw1] at k1 r1 hs1
  have k2 := (keepBut.refl [] w1).alloc (.cells Z.toArray 39)
  have r2 := rowAt.new w1 39 Z.toArray
  obtain ⟨w2, hw2⟩ : ∃ w2, w1.alloc (.cells Z.toArray 39) = w2 := ⟨_, rfl⟩
  rw [hw2] at k2 r2
  have r1' := k2.row r1 (by simp)
  have k12 := k1.then k2 (by simp)
  have h2 := h.over k12
  obtain ⟨b, hbb⟩ : ∃ b, w.heap.size = b := ⟨_, rfl⟩
  obtain ⟨d, hd⟩ : ∃ d, w1.heap.size = d := ⟨_, rfl⟩
  have HS := Lib.hid (And.intro hbb (And.intro hd hs1))
  have hpw := h.row.lt
  have hqw := h.ch.lt
  rw [hbb] at r1'
  rw [hd] at r2
  have y2 := (r1'.cell 2).trans x2
  have HZ := Lib.hid (And.intro hZ (And.intro hzl (And.intro hz1 (And.intro hpw hqw))))
  have HW := Lib.hid (And.intro hw1 (And.intro hw2 hzv))
  have HZE := Lib.hid (congrArg Value.agg (anZero_cells.symm.trans (congrArg List.toArray hZ)))
  have R2 := Lib.hid (And.intro r2 (And.intro k12 (And.intro h h2)))
  have R1 := Lib.hid (And.intro r1' hXl)
  have HX := Lib.hid (And.intro hx hb)
  have hne : (x.dst != 20 + s.client) = false := by simp [hc]
  have HV := Lib.hid (show contV x xa xc = .nilIface by unfold contV; rw [if_neg h7, if_neg hk2])
  have tA := ta_cf_nil
  have tB := ta_an_nil
  clear h h2 k1 r1 k2 r2 k12 hw1 hw2 hzv hzl hz1 hs1 hX x2 hpw hqw r1' hZ hXl hx hb hc h7 hk2
  go_enter Tryd.func17, Tryd.ntmps17
  go_upto_region 1 with (first
    | (with_reducible refine wpList_box_to _ _ rfl 44 (.tmp 1) rfl _ rfl HW.out.1 ?_)
    | (with_reducible refine wpList_alloc_to _ _ rfl 39 rfl _ HW.out.2.2 HW.out.2.1 ?_))
  try simp only [hbb, hd]
  go_quiet ((first
    | (go_at_call 42; exact Calls.quiet_of_same ((noneQ_any _ _ _ _ _ _ _ _ _ (R2.out.2.2.2.over ((keepBut.refl [] w2).drewN _))).mono (fun _ _ ⟨a, b⟩ => ⟨a, b.symm⟩)))
    | (go_at_call 43; exact Calls.quiet_of_same ((nodeQ_any _ _ _ _ _ _ _ _ _ (R2.out.2.2.2.over ((keepBut.refl [] w2).drewN _)) HX.out.2).mono (fun _ _ ⟨a, b⟩ => ⟨a, b.symm⟩)))))
  have k3 : keepBut [] w2 (w2.drewN nq) := (keepBut.refl [] w2).drewN nq
  generalize w2.drewN nq = w3 at k3 ⊢
  have kw3 := R2.out.2.1.then k3 (by simp)
  have H3 := Lib.hid (And.intro kw3 (And.intro (R2.out.2.2.1.over kw3) (And.intro (k3.row R1.out.1 (by simp)) (And.intro (k3.row R2.out.1 (by simp)) (k3.row R2.out.1 (by simp)).lt))))
  clear k3 kw3 y2
  go_upto_region 10 with (first
    | (refine wpList_load_mid rfl 44 (.tmp 3) rfl b 0 rfl X _ H3.out.2.2.1.rangeAll Tryd.underlying44 rfl (by rw [R1.out.2]; exact info_pkS) ?_)
    | (go_at_call 44; refine (HCt.out _).mono ?_; rintro e w4 ⟨rfl, k4⟩; rw [HV.out]; have H4 := Lib.hid (And.intro (H3.out.1.then k4 (by simp)) (And.intro (H3.out.2.1.over k4) (k4.row H3.out.2.2.2.1 (by simp)))); clear k4))
  have hth := (H4.out.2.2).there (o := 0) (n := 38) (by rw [List.size_toArray, HZ.out.2.1]; decide)
  have HT := Lib.hid hth
  clear hth
  go_wp2_with (first
    | (refine wpList_store_mid rfl 39 (.tmp 4) (.tmp 34) rfl d 0 Z.toArray rfl HZE.out (by rw [List.size_toArray, HZ.out.2.1]; exact HT.out) (by rw [List.size_toArray, HZ.out.2.1]; exact info_anS) (by simpa using HZ.out.2.2.1) ?_))
  have r9 := set0 (H4.out.2.2) (rfl : Z.length = Z.length)
  have hdd : w.heap.size ≤ d := by have := HS.out; omega
  have k9 : keepBut [] w (w4.setCells d 0 Z) ∨ True := .inr trivial
  refine bodyPost_ret (results_row_tmp rfl _ _ d 39 _ (0, 0) _ rfl r9 Tryd.underlying39 rfl (by rw [List.size_toArray, HZ.out.2.1]; exact info_anS)) rfl ?_
  have k5 : keepBut [d] w4 (w4.setCells d 0 Z) := (keepBut.refl _ _).setL (.inl (by simp))
  refine ⟨nilV, [], _, [], by rw [HZ.out.1]; rfl, anZero_val _ _, by simp [newIn], (show isQ w4 p q s cv ev (F ++ []) K T by rw [List.append_nil]; exact H4.out.2.1).keep k5 ?_ ?_ (fun y hy hm => ?_) (fun y hy hm => ?_), by simp [newIn], (show keepBut [p] w w4 from H4.out.1.more (by simp)).then k5 (fun y hy => .inr ?_)⟩
  · have := HZ.out.2.2.2; have := HS.out; simp only [List.mem_singleton]; omega
  · have := HZ.out.2.2.2; have := HS.out; simp only [List.mem_singleton]; omega
  · simp only [List.mem_singleton] at hm
    have h1 := (R2.out.2.2.1.far y (by simp only [List.append_nil] at hy; simp [hy])).1
    have := HS.out
    omega
  · simp only [List.mem_singleton] at hm
    have h1 := (R2.out.2.2.1.far y (by simp [hy])).1
    have := HS.out
    omega
  · simp only [List.mem_singleton] at hy; have := HS.out; omega
set_option maxHeartbeats 4000000 in
theorem takeQ_conf (hb : 0 ≤ s.client ∧ s.client ≤ 2) (G : List Nat) (hx : pkV w G x xe xa xc xv xb) (hc : x.dst = 20 + s.client) (h7 : x.kind = 7) (hl : x.conf.chain.length ≤ 1000000) :
    Calls Tryd.prog 17 #[.pointer (some ⟨p, 0, none⟩), .agg (pkL x xe xa xc xv xb).toArray] w (takePost p q ((anZero, false), s.learn x.conf) ev F K T w) := by
  have hXl := pkL_len (p := x) (ev := xe) (av := xa) (cv := xc) (vv := xv) (bw := xb) hx.rn hx.an
  have x2 : (pkL x xe xa xc xv xb).toArray[2]? = some (.int .i64 x.dst) := rfl
  have HCt := Lib.hid (fun w' => contents_any x xe xa xc xv xb w' hx.rn hx.an)
  obtain ⟨X, hX⟩ : ∃ X, pkL x xe xa xc xv xb = X := ⟨_, rfl⟩
  rw [hX] at hXl x2 HCt ⊢
  obtain ⟨Z, hZ⟩ : ∃ Z, anL anZero nilV = Z := ⟨_, rfl⟩
  have hzv := zv_an
  have hzl := anZ_len
  have hz1 := anZ_one
  rw [hZ] at hzv hzl hz1
  have k1 := (keepBut.refl [] w).alloc (.cells X.toArray 44)
  have r1 := rowAt.new w 44 X.toArray
  have hs1 : (w.alloc (.cells X.toArray 44)).heap.size = w.heap.size + 1 := World.size_alloc ..
  obtain ⟨w1, hw1⟩ : ∃ w1, w.alloc (.cells X.toArray 44) = w1 := ⟨_, rfl⟩
  rw [hw1] at k1 r1 hs1
  have k2 := (keepBut.refl [] w1).alloc (.cells Z.toArray 39)
  have r2 := rowAt.new w1 39 Z.toArray
  obtain ⟨w2, hw2⟩ : ∃ w2, w1.alloc (.cells Z.toArray 39) = w2 := ⟨_, rfl⟩
  rw [hw2] at k2 r2
  have r1' := k2.row r1 (by simp)
  have k12 := k1.then k2 (by simp)
  have h2 := h.over k12
  obtain ⟨b, hbb⟩ : ∃ b, w.heap.size = b := ⟨_, rfl⟩
  obtain ⟨d, hd⟩ : ∃ d, w1.heap.size = d := ⟨_, rfl⟩
  have HS := Lib.hid (And.intro hbb (And.intro hd hs1))
  have hpw := h.row.lt
  have hqw := h.ch.lt
  rw [hbb] at r1'
  rw [hd] at r2
  have y2 := (r1'.cell 2).trans x2
  have HZ := Lib.hid (And.intro hZ (And.intro hzl (And.intro hz1 (And.intro hpw hqw))))
  have HW := Lib.hid (And.intro hw1 (And.intro hw2 hzv))
  have HZE := Lib.hid (congrArg Value.agg (anZero_cells.symm.trans (congrArg List.toArray hZ)))
  have R2 := Lib.hid (And.intro r2 (And.intro k12 (And.intro h h2)))
  have R1 := Lib.hid (And.intro r1' hXl)
  have HX := Lib.hid (And.intro hx hb)
  have hne : (x.dst != 20 + s.client) = false := by simp [hc]
  obtain ⟨C, hC⟩ : ∃ C, cfL x.conf xc = C := ⟨_, rfl⟩
  have hCl : C.length = 3 := by rw [← hC]; rfl
  have hCo : ∀ u ∈ C, u.oneCell' = true := by rw [← hC]; exact cfL_one x.conf hx.cc.one
  have HV := Lib.hid (show contV x xa xc = .iface 41 (.agg C.toArray) by unfold contV; rw [if_pos h7, hC])
  have HC := Lib.hid (And.intro hC (And.intro hCl (And.intro hCo hl)))
  have tA := ta_cf
  clear h h2 k1 r1 k2 r2 k12 hw1 hw2 hzv hzl hz1 hs1 hX x2 hpw hqw r1' hZ hXl hx hb hc h7 hC hCl hCo hl
  go_enter Tryd.func17, Tryd.ntmps17
  go_upto_region 1 with (first
    | (with_reducible refine wpList_box_to _ _ rfl 44 (.tmp 1) rfl _ rfl HW.out.1 ?_)
    | (with_reducible refine wpList_alloc_to _ _ rfl 39 rfl _ HW.out.2.2 HW.out.2.1 ?_))
  try simp only [hbb, hd]
  go_quiet ((first
    | (go_at_call 42; exact Calls.quiet_of_same ((noneQ_any _ _ _ _ _ _ _ _ _ (R2.out.2.2.2.over ((keepBut.refl [] w2).drewN _))).mono (fun _ _ ⟨a, b⟩ => ⟨a, b.symm⟩)))
    | (go_at_call 43; exact Calls.quiet_of_same ((nodeQ_any _ _ _ _ _ _ _ _ _ (R2.out.2.2.2.over ((keepBut.refl [] w2).drewN _)) HX.out.2).mono (fun _ _ ⟨a, b⟩ => ⟨a, b.symm⟩)))))
  have k3 : keepBut [] w2 (w2.drewN nq) := (keepBut.refl [] w2).drewN nq
  generalize w2.drewN nq = w3 at k3 ⊢
  have kw3 := R2.out.2.1.then k3 (by simp)
  have H3 := Lib.hid (And.intro kw3 (And.intro (R2.out.2.2.1.over kw3) (And.intro (k3.row R1.out.1 (by simp)) (And.intro (k3.row R2.out.1 (by simp)) (k3.row R2.out.1 (by simp)).lt))))
  clear k3 kw3 y2
  go_upto_region 6 with (first
    | (refine wpList_load_mid rfl 44 (.tmp 3) rfl b 0 rfl X _ H3.out.2.2.1.rangeAll Tryd.underlying44 rfl (by rw [R1.out.2]; exact info_pkS) ?_)
    | (go_at_call 44; refine (HCt.out _).mono ?_; rintro e w4 ⟨rfl, k4⟩; rw [HV.out]; have H4 := Lib.hid (And.intro (H3.out.1.then k4 (by simp)) (And.intro (H3.out.2.1.over k4) (k4.row H3.out.2.2.2.1 (by simp)))); clear k4)
    | (with_reducible refine wpList_alloc_to _ _ rfl 41 rfl _ zv_cf rfl ?_)
    | (refine wpList_store_mid rfl 41 (.tmp 6) (.tmp 22) rfl w4.heap.size 0 C.toArray rfl rfl (there_newP (by rw [HC.out.2.1]; rfl)) (by rw [List.size_toArray, HC.out.2.1]; exact info_cf) (by simpa using HC.out.2.2.1) ?_))
  have hs := storedP (w := w4) (t := 41) (Z := cfL cfZero nilV) (X := C) (by rw [HC.out.2.1]; rfl)
  generalize hw6 : (w4.alloc (.cells (cfL cfZero nilV).toArray 41)).setCells w4.heap.size 0 C = w6 at hs ⊢
  generalize hc4 : w4.heap.size = c4 at hs ⊢
  have hd6 : d < w6.heap.size := Nat.lt_of_lt_of_le H4.out.2.2.lt hs.2.size
  have H6 := Lib.hid (And.intro hs.1.rangeAll (And.intro (H4.out.1.then hs.2 (by simp)) (And.intro (H4.out.2.1.over hs.2) (And.intro (hs.2.row H4.out.2.2 (by simp)) hd6))))
  have HLn := Lib.hid (learnQ_any p q s cv ev F K T x.conf xc w6 H6.out.2.2.1 G (HX.out.1.cc.keep H6.out.2.1 (by simp)) HC.out.2.2.2)
  rw [HC.out.1] at HLn
  clear hs hw6 hc4 hd6
  go_upto_region 10 with (first
    | (refine wpList_load_mid rfl 41 (.tmp 6) rfl c4 0 rfl C _ H6.out.1 Tryd.underlying41 rfl (by rw [HC.out.2.1]; exact info_cf) ?_)
    | (go_at_call 45; refine HLn.out.mono ?_; rintro e w7 ⟨rfl, cv', G', h7, hG7, k7⟩; have hdp : d ≠ p := (by have := HZ.out.2.2.2; have := HS.out; omega); have H7 := Lib.hid (And.intro h7 (And.intro hG7 (And.intro k7 (k7.row H6.out.2.2.2.1 (by simpa using hdp))))); clear h7 hG7 k7 hdp))
  have hth := (H7.out.2.2.2).there (o := 0) (n := 38) (by rw [List.size_toArray, HZ.out.2.1]; decide)
  have HT := Lib.hid hth
  clear hth
  go_wp2_with (first
    | (refine wpList_store_mid rfl 39 (.tmp 4) (.tmp 34) rfl d 0 Z.toArray rfl HZE.out (by rw [List.size_toArray, HZ.out.2.1]; exact HT.out) (by rw [List.size_toArray, HZ.out.2.1]; exact info_anS) (by simpa using HZ.out.2.2.1) ?_))
  have r9 := set0 (H7.out.2.2.2) (rfl : Z.length = Z.length)
  have hdd : w.heap.size ≤ d := by have := HS.out; omega
  have k9 : keepBut [] w (w7.setCells d 0 Z) ∨ True := .inr trivial
  refine bodyPost_ret (results_row_tmp rfl _ _ d 39 _ (0, 0) _ rfl r9 Tryd.underlying39 rfl (by rw [List.size_toArray, HZ.out.2.1]; exact info_anS)) rfl ?_
  have k5 : keepBut [d] w7 (w7.setCells d 0 Z) := (keepBut.refl _ _).setL (.inl (by simp))
  refine ⟨nilV, [], _, G', by rw [HZ.out.1]; rfl, anZero_val _ _, by simp [newIn], (H7.out.1).keep k5 ?_ ?_ (fun y hy hm => ?_) (fun y hy hm => ?_), fun y hy => ⟨by have h1 := (H7.out.2.1 y hy).1; have h2 := H6.out.2.1.size; omega, Nat.lt_of_lt_of_le (H7.out.2.1 y hy).2 k5.size⟩, (show keepBut [p] w w7 from (H6.out.2.1.more (by simp)).then H7.out.2.2.1 (fun y hy => .inl hy)).then k5 (fun y hy => .inr ?_)⟩
  · have := HZ.out.2.2.2; have := HS.out; simp only [List.mem_singleton]; omega
  · have := HZ.out.2.2.2; have := HS.out; simp only [List.mem_singleton]; omega
  · simp only [List.mem_singleton] at hm
    rcases List.mem_append.1 hy with hy | hy
    · have h1 := (R2.out.2.2.1.far y (by simp [hy])).1
      have := HS.out
      omega
    · have h1 := (H7.out.2.1 y hy).1
      have h2 := H6.out.2.2.2.2
      omega
  · simp only [List.mem_singleton] at hm
    have h1 := (R2.out.2.2.1.far y (by simp [hy])).1
    have := HS.out
    omega
  · simp only [List.mem_singleton] at hy; have := HS.out; omega
set_option maxHeartbeats 4000000 in
theorem takeQ_ans (hb : 0 ≤ s.client ∧ s.client ≤ 2) (G : List Nat) (hx : pkV w G x xe xa xc xv xb) (hc : x.dst = 20 + s.client) (hk2 : x.kind = 2) (hGp : ∀ y ∈ G, y ≠ p) (hl : x.ans.env.length ≤ 1000000) :
    Calls Tryd.prog 17 #[.pointer (some ⟨p, 0, none⟩), .agg (pkL x xe xa xc xv xb).toArray] w (takePost p q (s.ansP x.ans) ev F K T w) := by
  have hXl := pkL_len (p := x) (ev := xe) (av := xa) (cv := xc) (vv := xv) (bw := xb) hx.rn hx.an
  have x2 : (pkL x xe xa xc xv xb).toArray[2]? = some (.int .i64 x.dst) := rfl
  have HCt := Lib.hid (fun w' => contents_any x xe xa xc xv xb w' hx.rn hx.an)
  obtain ⟨X, hX⟩ : ∃ X, pkL x xe xa xc xv xb = X := ⟨_, rfl⟩
  rw [hX] at hXl x2 HCt ⊢
  obtain ⟨Z, hZ⟩ : ∃ Z, anL anZero nilV = Z := ⟨_, rfl⟩
  have hzv := zv_an
  have hzl := anZ_len
  have hz1 := anZ_one
  rw [hZ] at hzv hzl hz1
  have k1 := (keepBut.refl [] w).alloc (.cells X.toArray 44)
  have r1 := rowAt.new w 44 X.toArray
  have hs1 : (w.alloc (.cells X.toArray 44)).heap.size = w.heap.size + 1 := World.size_alloc ..
  obtain ⟨w1, hw1⟩ : ∃ w1, w.alloc (.cells X.toArray 44) = w1 := ⟨_, rfl⟩
  rw [hw1] at k1 r1 hs1
  have k2 := (keepBut.refl [] w1).alloc (.cells Z.toArray 39)
  have r2 := rowAt.new w1 39 Z.toArray
  obtain ⟨w2, hw2⟩ : ∃ w2, w1.alloc (.cells Z.toArray 39) = w2 := ⟨_, rfl⟩
  rw [hw2] at k2 r2
  have r1' := k2.row r1 (by simp)
  have k12 := k1.then k2 (by simp)
  have h2 := h.over k12
  obtain ⟨b, hbb⟩ : ∃ b, w.heap.size = b := ⟨_, rfl⟩
  obtain ⟨d, hd⟩ : ∃ d, w1.heap.size = d := ⟨_, rfl⟩
  have HS := Lib.hid (And.intro hbb (And.intro hd hs1))
  have hpw := h.row.lt
  have hqw := h.ch.lt
  rw [hbb] at r1'
  rw [hd] at r2
  have y2 := (r1'.cell 2).trans x2
  have HZ := Lib.hid (And.intro hZ (And.intro hzl (And.intro hz1 (And.intro hpw hqw))))
  have HW := Lib.hid (And.intro hw1 (And.intro hw2 hzv))
  have HZE := Lib.hid (congrArg Value.agg (anZero_cells.symm.trans (congrArg List.toArray hZ)))
  have R2 := Lib.hid (And.intro r2 (And.intro k12 (And.intro h h2)))
  have R1 := Lib.hid (And.intro r1' hXl)
  have HX := Lib.hid (And.intro hx hb)
  have hne : (x.dst != 20 + s.client) = false := by simp [hc]
  obtain ⟨N, hN⟩ : ∃ N, anL x.ans xa = N := ⟨_, rfl⟩
  have hNl : N.length = 38 := by rw [← hN]; exact anL_len hx.an
  have hNo : ∀ u ∈ N, u.oneCell' = true := by rw [← hN]; exact anL_one x.ans hx.ae.one
  have HV := Lib.hid (show contV x xa xc = .iface 39 (.agg N.toArray) by unfold contV; rw [if_neg (by rw [hk2]; decide), if_pos hk2, hN])
  have HN := Lib.hid (And.intro hN (And.intro hNl (And.intro hNo (And.intro hl hGp))))
  have tA := ta_cf_an
  have tB := ta_an
  obtain ⟨r, hr⟩ : ∃ r, s.ansP x.ans = r := ⟨_, rfl⟩
  rw [hr]
  have HRr := Lib.hid hr
  clear h h2 k1 r1 k2 r2 k12 hw1 hw2 hzv hzl hz1 hs1 hX x2 hpw hqw r1' hZ hXl hx hb hc hk2 hN hNl hNo hl hGp hr
  go_enter Tryd.func17, Tryd.ntmps17
  go_upto_region 1 with (first
    | (with_reducible refine wpList_box_to _ _ rfl 44 (.tmp 1) rfl _ rfl HW.out.1 ?_)
    | (with_reducible refine wpList_alloc_to _ _ rfl 39 rfl _ HW.out.2.2 HW.out.2.1 ?_))
  try simp only [hbb, hd]
  go_quiet ((first
    | (go_at_call 42; exact Calls.quiet_of_same ((noneQ_any _ _ _ _ _ _ _ _ _ (R2.out.2.2.2.over ((keepBut.refl [] w2).drewN _))).mono (fun _ _ ⟨a, b⟩ => ⟨a, b.symm⟩)))
    | (go_at_call 43; exact Calls.quiet_of_same ((nodeQ_any _ _ _ _ _ _ _ _ _ (R2.out.2.2.2.over ((keepBut.refl [] w2).drewN _)) HX.out.2).mono (fun _ _ ⟨a, b⟩ => ⟨a, b.symm⟩)))))
  have k3 : keepBut [] w2 (w2.drewN nq) := (keepBut.refl [] w2).drewN nq
  generalize w2.drewN nq = w3 at k3 ⊢
  have kw3 := R2.out.2.1.then k3 (by simp)
  have H3 := Lib.hid (And.intro kw3 (And.intro (R2.out.2.2.1.over kw3) (And.intro (k3.row R1.out.1 (by simp)) (And.intro (k3.row R2.out.1 (by simp)) (k3.row R2.out.1 (by simp)).lt))))
  clear k3 kw3 y2
  go_upto_region 9 with (first
    | (refine wpList_load_mid rfl 44 (.tmp 3) rfl b 0 rfl X _ H3.out.2.2.1.rangeAll Tryd.underlying44 rfl (by rw [R1.out.2]; exact info_pkS) ?_)
    | (go_at_call 44; refine (HCt.out _).mono ?_; rintro e w4 ⟨rfl, k4⟩; rw [HV.out]; have H4 := Lib.hid (And.intro (H3.out.1.then k4 (by simp)) (And.intro (H3.out.2.1.over k4) (k4.row H3.out.2.2.2.1 (by simp)))); clear k4)
    | (with_reducible refine wpList_alloc_to _ _ rfl 39 rfl _ HW.out.2.2 rfl ?_)
    | (refine wpList_store_mid rfl 39 (.tmp 7) (.tmp 28) rfl w4.heap.size 0 N.toArray rfl rfl (there_newP (by rw [HN.out.2.1, HZ.out.2.1])) (by rw [List.size_toArray, HN.out.2.1]; exact info_anS) (by simpa using HN.out.2.2.1) ?_))
  have hs := storedP (w := w4) (t := 39) (Z := Z) (X := N) (by rw [HN.out.2.1, HZ.out.2.1])
  generalize hw6 : (w4.alloc (.cells Z.toArray 39)).setCells w4.heap.size 0 N = w6 at hs ⊢
  generalize hc4 : w4.heap.size = c4 at hs ⊢
  have hd6 : d < w6.heap.size := Nat.lt_of_lt_of_le H4.out.2.2.lt hs.2.size
  have H6 := Lib.hid (And.intro hs.1.rangeAll (And.intro (H4.out.1.then hs.2 (by simp)) (And.intro (H4.out.2.1.over hs.2) (And.intro (hs.2.row H4.out.2.2 (by simp)) hd6))))
  have HLn := Lib.hid (ansQ_any p q s cv ev F K T x.ans xa w6 H6.out.2.2.1 G ⟨HX.out.1.an, HX.out.1.ae.keep H6.out.2.1 (by simp)⟩ HN.out.2.2.2.2 HN.out.2.2.2.1)
  rw [HN.out.1, HRr.out] at HLn
  clear hs hw6 hc4 hd6
  go_wp2_with (first
    | (refine wpList_load_mid rfl 39 (.tmp 7) rfl c4 0 rfl N _ H6.out.1 Tryd.underlying39 rfl (by rw [HN.out.2.1]; exact info_anS) ?_)
    | (go_at_call 46; refine HLn.out.mono ?_; rintro e w7 ⟨av, G', rfl, hv7, hG7, h7, k7⟩; have hdp : d ≠ p := (by have := HZ.out.2.2.2; have := HS.out; omega); have H7 := Lib.hid (And.intro hv7 (And.intro hG7 (And.intro h7 (And.intro k7 (k7.row H6.out.2.2.2.1 (by simpa using hdp)))))); clear h7 hG7 k7 hdp hv7; obtain ⟨Y, hY⟩ : ∃ Y, anL r.1.1 av = Y := ⟨_, rfl⟩; have HY := Lib.hid (And.intro hY (And.intro (show Y.length = 38 by rw [← hY]; exact anL_len H7.out.1.1) (show ∀ u ∈ Y, u.oneCell' = true by rw [← hY]; exact anL_one _ H7.out.1.2.one))); have HT := Lib.hid (H7.out.2.2.2.2.there (o := 0) (n := 38) (by rw [List.size_toArray, HZ.out.2.1]; decide)); rw [hY]; clear hY)
    | (refine wpList_store_mid rfl 39 (.tmp 4) (.tmp 32) rfl d 0 Y.toArray rfl rfl (by rw [List.size_toArray, HY.out.2.1]; exact HT.out) (by rw [List.size_toArray, HY.out.2.1]; exact info_anS) (by simpa using HY.out.2.2) ?_))
  have r9 := set0 H7.out.2.2.2.2 (show Y.length = Z.length by rw [HY.out.2.1, HZ.out.2.1])
  refine bodyPost_ret (results_row_tmp rfl _ _ d 39 _ (0, 0) _ rfl r9 Tryd.underlying39 rfl (by rw [List.size_toArray, HY.out.2.1]; exact info_anS)) rfl ?_
  have k5 : keepBut [d] w7 (w7.setCells d 0 Y) := (keepBut.refl _ _).setL (.inl (by simp))
  refine ⟨av, G', _, [], by rw [HY.out.1]; rfl, ⟨H7.out.1.1, H7.out.1.2.keep k5 (fun y hy hm => ?_)⟩, fun y hy => ⟨?_, ?_⟩, (show isQ w7 p q r.2 cv ev (F ++ []) K T by rw [List.append_nil]; exact H7.out.2.2.1).keep k5 ?_ ?_ (fun y hy hm => ?_) (fun y hy hm => ?_), by simp [newIn], (show keepBut [p] w w7 from (H6.out.2.1.more (by simp)).then H7.out.2.2.2.1 (fun y hy => .inl hy)).then k5 (fun y hy => .inr ?_)⟩
  · have h1 := (H7.out.2.1 y hy).1
    have h2 := H6.out.2.2.2.2
    simp only [List.mem_singleton] at hm
    omega
  · have h1 := (H7.out.2.1 y hy).1
    have h2 := H6.out.2.1.size
    omega
  · exact Nat.lt_of_lt_of_le (H7.out.2.1 y hy).2 k5.size
  · have := HZ.out.2.2.2; have := HS.out; simp only [List.mem_singleton]; omega
  · have := HZ.out.2.2.2; have := HS.out; simp only [List.mem_singleton]; omega
  · simp only [List.mem_singleton] at hm
    have h1 := (R2.out.2.2.1.far y (by simp only [List.append_nil] at hy; simp [hy])).1
    have := HS.out
    omega
  · simp only [List.mem_singleton] at hm
    have h1 := (R2.out.2.2.1.far y (by simp [hy])).1
    have := HS.out
    omega
  · simp only [List.mem_singleton] at hy; have := HS.out; omega
theorem takeQ_any (hb : 0 ≤ s.client ∧ s.client ≤ 2) (G : List Nat) (hx : pkV w G x xe xa xc xv xb) (hGp : ∀ y ∈ G, y ≠ p) (hl : x.ans.env.length ≤ 1000000) (hl2 : x.conf.chain.length ≤ 1000000) :
    Calls Tryd.prog 17 #[.pointer (some ⟨p, 0, none⟩), .agg (pkL x xe xa xc xv xb).toArray] w (takePost p q (s.takeP x) ev F K T w) := by
  unfold SS.takeP
  by_cases hc : x.dst = 20 + s.client
  · rw [if_pos hc]
    by_cases h7 : x.kind = 7
    · rw [if_pos h7]; exact takeQ_conf p q s cv ev F K T x xe xa xc xv xb w h hb G hx hc h7 hl2
    · rw [if_neg h7]
      by_cases h2 : x.kind = 2
      · rw [if_pos h2]; exact takeQ_ans p q s cv ev F K T x xe xa xc xv xb w h hb G hx hc h2 hGp hl
      · rw [if_neg h2]; exact takeQ_other p q s cv ev F K T x xe xa xc xv xb w h hb G hx hc h7 h2
  · rw [if_neg hc]; exact takeQ_far p q s cv ev F K T x xe xa xc xv xb w h hb G hx hc
end
end Go.Proofs.YtkpmlcgbffdloaaDoor
