/-
  SP7: SPlay7, SPlay8, joined.
-/
import Derived.Test.YtkpmlcgbffdloaaDoorSP1
section
namespace Go.Proofs.YtkpmlcgbffdloaaDoor
open Go.RowKit
set_option linter.unusedVariables false
set_option maxRecDepth 100000
set_option linter.unusedSimpArgs false

def takeMPost (p : Nat) (x : (AN × Bool) × SS) (ev : Value) (F : List Nat) (w : World) (e : Ending) (w' : World) : Prop :=
  ∃ av G cv' G', e = .returned (.tuple #[.agg (anL x.1.1 av).toArray, .bool x.1.2]) ∧ anV w' G x.1.1 av ∧ newIn w w' G ∧ isM w' p x.2 cv' ev (F ++ G') ∧ newIn w w' G' ∧ keepBut [p] w w'
section
variable (p : Nat) (s : SS) (cv ev : Value) (F : List Nat) (x : PK) (xe xa xc xv xb : Value) (w : World) (h : isM w p s cv ev F)
include h
set_option maxHeartbeats 4000000 in
theorem takeM_far (hb : 0 ≤ s.client ∧ s.client ≤ 2) (G : List Nat) (hx : pkV w G x xe xa xc xv xb) (hc : ¬ x.dst = 20 + s.client) :
    Calls Tryd.prog 35 #[.pointer (some ⟨p, 0, none⟩), .agg (pkL x xe xa xc xv xb).toArray] w (takeMPost p ((anZero, false), s) ev F w) := by
  have hXl := pkL_len (p := x) (ev := xe) (av := xa) (cv := xc) (vv := xv) (bw := xb) hx.rn hx.an
  have c0 : (pkL x xe xa xc xv xb).toArray[0]? = some (.int .i64 x.kind) := rfl
  have c2 : (pkL x xe xa xc xv xb).toArray[2]? = some (.int .i64 x.dst) := rfl
  have c44 : (pkL x xe xa xc xv xb).toArray[44]? = some (.int .i64 x.ans.client) := pkL_ans hx.rn 0 _ rfl
  have c45 : (pkL x xe xa xc xv xb).toArray[45]? = some (.int .i64 x.ans.num) := pkL_ans hx.rn 1 _ rfl
  have c82 : (pkL x xe xa xc xv xb).toArray[82]? = some (.int .i64 x.conf.num) := pkL_tail hx.rn hx.an 0 _ rfl
  have qA : ∀ j v, (anL x.ans xa)[j]? = some v → (pkL x xe xa xc xv xb).toArray[44 + j]? = some v := pkL_ans hx.rn
  have qC : ∀ j v, (cfL x.conf xc ++ [xv, xb])[j]? = some v → (pkL x xe xa xc xv xb).toArray[82 + j]? = some v := pkL_tail hx.rn hx.an
  obtain ⟨X, hX⟩ : ∃ X, pkL x xe xa xc xv xb = X := ⟨_, rfl⟩
  rw [hX] at hXl c0 c2 c44 c45 c82 qA qC ⊢
  obtain ⟨Z, hZ⟩ : ∃ Z, anL anZero nilV = Z := ⟨_, rfl⟩
  have hzv := zv_an
  have hzl := anZ_len
  have hz1 := anZ_one
  rw [hZ] at hzv hzl hz1
  obtain ⟨A, cc, g, rfl, _, h3, _⟩ := h.chain
  obtain ⟨n, hn⟩ : ∃ n, s.conf.chain.length = n := ⟨_, rfl⟩
  have hnm : n ≤ 9223372036854775807 := by unfold maxLen at h3; omega
  have k1 := (keepBut.refl [] w).alloc (.cells X.toArray 44)
  have r1 := rowAt.new w 44 X.toArray
  have hs1 : (w.alloc (.cells X.toArray 44)).heap.size = w.heap.size + 1 := World.size_alloc ..
  obtain ⟨w1, hw1⟩ : ∃ w1, w.alloc (.cells X.toArray 44) = w1 := ⟨_, rfl⟩
  rw [hw1] at k1 r1 hs1
  have k2 := (keepBut.refl [] w1).alloc (.cells Z.toArray 39)
  have r2 := rowAt.new w1 39 Z.toArray
  obtain ⟨w2, hw2⟩ : ∃ w2, w1.alloc (.cells Z.toArray 39) = w2 := ⟨_, rfl⟩
  rw [hw2] at k2 r2
  have r1' := k2.row r1 (by simp)
  have k12 := k1.then k2 (by simp)
  obtain ⟨b, hbb⟩ : ∃ b, w.heap.size = b := ⟨_, rfl⟩
  obtain ⟨d, hd⟩ : ∃ d, w1.heap.size = d := ⟨_, rfl⟩
  have HS := Lib.hid (And.intro hbb (And.intro hd hs1))
  have hpw := h.row.lt
  rw [hbb] at r1'
  rw [hd] at r2
  have HC := Lib.hid (And.intro c0 (And.intro c2 (And.intro c44 (And.intro c45 (And.intro c82 (And.intro hn (And.intro qA qC)))))))
  have HZ := Lib.hid (And.intro hZ (And.intro hzl (And.intro hz1 hpw)))
  have HW := Lib.hid (And.intro hw1 (And.intro hw2 hzv))
  have HZE := Lib.hid (congrArg Value.agg (anZero_cells.symm.trans (congrArg List.toArray hZ)))
  have H2 := Lib.hid (And.intro k12 (And.intro (h.over k12) (And.intro r1' r2)))
  have HX := Lib.hid (And.intro hx (And.intro hb (And.intro h hXl)))
  obtain ⟨hb1, hb2⟩ := hb
  have hne : (x.dst != 20 + s.client) = true := by simp [hc]
  clear h k1 r1 k2 r2 k12 hw1 hw2 hzv hzl hz1 hs1 hX hpw r1' hZ hXl hx c0 c2 c44 c45 c82 hn qA qC h3 hc hnm
  have yd := (H2.out.2.2.1.cell 2).trans HC.out.2.1
  have z0 := H2.out.2.1.cells.1
  go_enter Tryd.func35, Tryd.ntmps35
  go_upto_region 1 with (first
    | (with_reducible refine wpList_box_to _ _ rfl 44 (.tmp 1) rfl _ rfl HW.out.1 ?_)
    | (with_reducible refine wpList_alloc_to _ _ rfl 39 rfl _ HW.out.2.2 HW.out.2.1 ?_))
  try simp only [hbb, hd]
  go_quiet (fail)
  have k9 : keepBut [] w2 (w2.drewN nq) := (keepBut.refl [] w2).drewN nq
  generalize w2.drewN nq = w3 at k9 ⊢
  have H3 := Lib.hid (And.intro (H2.out.1.then k9 (by simp)) (And.intro (H2.out.2.1.over k9) (And.intro (k9.row H2.out.2.2.1 (by simp)) (k9.row H2.out.2.2.2 (by simp)))))
  clear k9
  clear yd z0
  have HT := Lib.hid (H3.out.2.2.2.there (o := 0) (n := 38) (by rw [List.size_toArray, HZ.out.2.1]; decide))
  go_wp2_with (first
    | (refine wpList_store_mid rfl 39 (.tmp 4) (.tmp 14) rfl d 0 Z.toArray rfl HZE.out (by rw [List.size_toArray, HZ.out.2.1]; exact HT.out) (by rw [List.size_toArray, HZ.out.2.1]; exact info_anS) (by simpa using HZ.out.2.2.1) ?_))
  have r9 := set0 (H3.out.2.2.2) (rfl : Z.length = Z.length)
  refine bodyPost_ret (results_row_tmp rfl _ _ d 39 _ (0, 0) _ rfl r9 Tryd.underlying39 rfl (by rw [List.size_toArray, HZ.out.2.1]; exact info_anS)) rfl ?_
  have k5 : keepBut [d] w3 (w3.setCells d 0 Z) := (keepBut.refl _ _).setL (.inl (by simp))
  refine ⟨nilV, [], _, [], by rw [HZ.out.1]; rfl, anZero_val _ _, by simp [newIn], (show isM w3 p _ _ ev (F ++ []) by rw [List.append_nil]; exact H3.out.2.1).keep k5 ?_ (fun y hy hm => ?_), by simp [newIn], (show keepBut [p] w w3 from H3.out.1.more (by simp)).then k5 (fun y hy => .inr ?_)⟩
  · have := HZ.out.2.2.2; have := HS.out; simp only [List.mem_singleton]; omega
  · simp only [List.mem_singleton] at hm
    have h1 := (HX.out.2.2.1.far y (by simp only [List.append_nil] at hy; simp [hy])).1
    have := HS.out
    omega
  · simp only [List.mem_singleton] at hy; have := HS.out; omega
set_option maxHeartbeats 4000000 in
theorem takeM_other (hb : 0 ≤ s.client ∧ s.client ≤ 2) (G : List Nat) (hx : pkV w G x xe xa xc xv xb) (hc : x.dst = 20 + s.client) (h7 : x.kind ≠ 7) (hk2 : x.kind ≠ 2) :
    Calls Tryd.prog 35 #[.pointer (some ⟨p, 0, none⟩), .agg (pkL x xe xa xc xv xb).toArray] w (takeMPost p ((anZero, false), s) ev F w) := by
  have hXl := pkL_len (p := x) (ev := xe) (av := xa) (cv := xc) (vv := xv) (bw := xb) hx.rn hx.an
  have c0 : (pkL x xe xa xc xv xb).toArray[0]? = some (.int .i64 x.kind) := rfl
  have c2 : (pkL x xe xa xc xv xb).toArray[2]? = some (.int .i64 x.dst) := rfl
  have c44 : (pkL x xe xa xc xv xb).toArray[44]? = some (.int .i64 x.ans.client) := pkL_ans hx.rn 0 _ rfl
  have c45 : (pkL x xe xa xc xv xb).toArray[45]? = some (.int .i64 x.ans.num) := pkL_ans hx.rn 1 _ rfl
  have c82 : (pkL x xe xa xc xv xb).toArray[82]? = some (.int .i64 x.conf.num) := pkL_tail hx.rn hx.an 0 _ rfl
  have qA : ∀ j v, (anL x.ans xa)[j]? = some v → (pkL x xe xa xc xv xb).toArray[44 + j]? = some v := pkL_ans hx.rn
  have qC : ∀ j v, (cfL x.conf xc ++ [xv, xb])[j]? = some v → (pkL x xe xa xc xv xb).toArray[82 + j]? = some v := pkL_tail hx.rn hx.an
  obtain ⟨X, hX⟩ : ∃ X, pkL x xe xa xc xv xb = X := ⟨_, rfl⟩
  rw [hX] at hXl c0 c2 c44 c45 c82 qA qC ⊢
  obtain ⟨Z, hZ⟩ : ∃ Z, anL anZero nilV = Z := ⟨_, rfl⟩
  have hzv := zv_an
  have hzl := anZ_len
  have hz1 := anZ_one
  rw [hZ] at hzv hzl hz1
  obtain ⟨A, cc, g, rfl, _, h3, _⟩ := h.chain
  obtain ⟨n, hn⟩ : ∃ n, s.conf.chain.length = n := ⟨_, rfl⟩
  have hnm : n ≤ 9223372036854775807 := by unfold maxLen at h3; omega
  have k1 := (keepBut.refl [] w).alloc (.cells X.toArray 44)
  have r1 := rowAt.new w 44 X.toArray
  have hs1 : (w.alloc (.cells X.toArray 44)).heap.size = w.heap.size + 1 := World.size_alloc ..
  obtain ⟨w1, hw1⟩ : ∃ w1, w.alloc (.cells X.toArray 44) = w1 := ⟨_, rfl⟩
  rw [hw1] at k1 r1 hs1
  have k2 := (keepBut.refl [] w1).alloc (.cells Z.toArray 39)
  have r2 := rowAt.new w1 39 Z.toArray
  obtain ⟨w2, hw2⟩ : ∃ w2, w1.alloc (.cells Z.toArray 39) = w2 := ⟨_, rfl⟩
  rw [hw2] at k2 r2
  have r1' := k2.row r1 (by simp)
  have k12 := k1.then k2 (by simp)
  obtain ⟨b, hbb⟩ : ∃ b, w.heap.size = b := ⟨_, rfl⟩
  obtain ⟨d, hd⟩ : ∃ d, w1.heap.size = d := ⟨_, rfl⟩
  have HS := Lib.hid (And.intro hbb (And.intro hd hs1))
  have hpw := h.row.lt
  rw [hbb] at r1'
  rw [hd] at r2
  have HC := Lib.hid (And.intro c0 (And.intro c2 (And.intro c44 (And.intro c45 (And.intro c82 (And.intro hn (And.intro qA qC)))))))
  have HZ := Lib.hid (And.intro hZ (And.intro hzl (And.intro hz1 hpw)))
  have HW := Lib.hid (And.intro hw1 (And.intro hw2 hzv))
  have HZE := Lib.hid (congrArg Value.agg (anZero_cells.symm.trans (congrArg List.toArray hZ)))
  have H2 := Lib.hid (And.intro k12 (And.intro (h.over k12) (And.intro r1' r2)))
  have HX := Lib.hid (And.intro hx (And.intro hb (And.intro h hXl)))
  obtain ⟨hb1, hb2⟩ := hb
  have hne : (x.dst != 20 + s.client) = false := by simp [hc]
  have e7 : (x.kind == 7) = false := by simp [h7]
  have e2 : (x.kind == 2) = false := by simp [hk2]
  clear h k1 r1 k2 r2 k12 hw1 hw2 hzv hzl hz1 hs1 hX hpw r1' hZ hXl hx c0 c2 c44 c45 c82 hn qA qC h3 hc h7 hk2
  have yd := (H2.out.2.2.1.cell 2).trans HC.out.2.1
  have z0 := H2.out.2.1.cells.1
  go_enter Tryd.func35, Tryd.ntmps35
  go_upto_region 1 with (first
    | (with_reducible refine wpList_box_to _ _ rfl 44 (.tmp 1) rfl _ rfl HW.out.1 ?_)
    | (with_reducible refine wpList_alloc_to _ _ rfl 39 rfl _ HW.out.2.2 HW.out.2.1 ?_))
  try simp only [hbb, hd]
  go_quiet (fail)
  have k9 : keepBut [] w2 (w2.drewN nq) := (keepBut.refl [] w2).drewN nq
  generalize w2.drewN nq = w3 at k9 ⊢
  have H3 := Lib.hid (And.intro (H2.out.1.then k9 (by simp)) (And.intro (H2.out.2.1.over k9) (And.intro (k9.row H2.out.2.2.1 (by simp)) (k9.row H2.out.2.2.2 (by simp)))))
  clear k9
  clear yd z0
  go_upto_region 3 with (fail)
  have yk := (H3.out.2.2.1.cell 0).trans HC.out.1
  have yc := (H3.out.2.2.1.cell 82).trans HC.out.2.2.2.2.1
  have z4 := H3.out.2.1.cells.2.2.2.2.1
  have z6 := H3.out.2.1.cells.2.2.2.2.2.2.1
  rw [HC.out.2.2.2.2.2.1] at z6
  go_quiet (fail)
  have k9 : keepBut [] w3 (w3.drewN nq) := (keepBut.refl [] w3).drewN nq
  generalize w3.drewN nq = w4 at k9 ⊢
  have H4 := Lib.hid (And.intro (H3.out.1.then k9 (by simp)) (And.intro (H3.out.2.1.over k9) (And.intro (k9.row H3.out.2.2.1 (by simp)) (k9.row H3.out.2.2.2 (by simp)))))
  clear k9
  clear yk yc z4 z6
  go_upto_region 6 with (fail)
  have yk := (H4.out.2.2.1.cell 0).trans HC.out.1
  have ya := (H4.out.2.2.1.cell 44).trans HC.out.2.2.1
  have ym := (H4.out.2.2.1.cell 45).trans HC.out.2.2.2.1
  have z0 := H4.out.2.1.cells.1
  have z44 := H4.out.2.1.cells.2.2.2.2.2.2.2.1
  have z48 := H4.out.2.1.cells.2.2.2.2.2.2.2.2.2.2.2
  go_quiet (fail)
  have k9 : keepBut [] w4 (w4.drewN nq) := (keepBut.refl [] w4).drewN nq
  generalize w4.drewN nq = w5 at k9 ⊢
  have H5 := Lib.hid (And.intro (H4.out.1.then k9 (by simp)) (And.intro (H4.out.2.1.over k9) (And.intro (k9.row H4.out.2.2.1 (by simp)) (k9.row H4.out.2.2.2 (by simp)))))
  clear k9
  clear yk ya ym z0 z44 z48
  have HT := Lib.hid (H5.out.2.2.2.there (o := 0) (n := 38) (by rw [List.size_toArray, HZ.out.2.1]; decide))
  go_wp2_with (first
    | (refine wpList_store_mid rfl 39 (.tmp 4) (.tmp 82) rfl d 0 Z.toArray rfl HZE.out (by rw [List.size_toArray, HZ.out.2.1]; exact HT.out) (by rw [List.size_toArray, HZ.out.2.1]; exact info_anS) (by simpa using HZ.out.2.2.1) ?_))
  have r9 := set0 (H5.out.2.2.2) (rfl : Z.length = Z.length)
  refine bodyPost_ret (results_row_tmp rfl _ _ d 39 _ (0, 0) _ rfl r9 Tryd.underlying39 rfl (by rw [List.size_toArray, HZ.out.2.1]; exact info_anS)) rfl ?_
  have k5 : keepBut [d] w5 (w5.setCells d 0 Z) := (keepBut.refl _ _).setL (.inl (by simp))
  refine ⟨nilV, [], _, [], by rw [HZ.out.1]; rfl, anZero_val _ _, by simp [newIn], (show isM w5 p _ _ ev (F ++ []) by rw [List.append_nil]; exact H5.out.2.1).keep k5 ?_ (fun y hy hm => ?_), by simp [newIn], (show keepBut [p] w w5 from H5.out.1.more (by simp)).then k5 (fun y hy => .inr ?_)⟩
  · have := HZ.out.2.2.2; have := HS.out; simp only [List.mem_singleton]; omega
  · simp only [List.mem_singleton] at hm
    have h1 := (HX.out.2.2.1.far y (by simp only [List.append_nil] at hy; simp [hy])).1
    have := HS.out
    omega
  · simp only [List.mem_singleton] at hy; have := HS.out; omega
set_option maxHeartbeats 4000000 in
theorem takeM_idle (hb : 0 ≤ s.client ∧ s.client ≤ 2) (G : List Nat) (hx : pkV w G x xe xa xc xv xb) (hc : x.dst = 20 + s.client) (hk2 : x.kind = 2) (hw : s.waits = false) :
    Calls Tryd.prog 35 #[.pointer (some ⟨p, 0, none⟩), .agg (pkL x xe xa xc xv xb).toArray] w (takeMPost p ((anZero, false), s) ev F w) := by
  have hXl := pkL_len (p := x) (ev := xe) (av := xa) (cv := xc) (vv := xv) (bw := xb) hx.rn hx.an
  have c0 : (pkL x xe xa xc xv xb).toArray[0]? = some (.int .i64 x.kind) := rfl
  have c2 : (pkL x xe xa xc xv xb).toArray[2]? = some (.int .i64 x.dst) := rfl
  have c44 : (pkL x xe xa xc xv xb).toArray[44]? = some (.int .i64 x.ans.client) := pkL_ans hx.rn 0 _ rfl
  have c45 : (pkL x xe xa xc xv xb).toArray[45]? = some (.int .i64 x.ans.num) := pkL_ans hx.rn 1 _ rfl
  have c82 : (pkL x xe xa xc xv xb).toArray[82]? = some (.int .i64 x.conf.num) := pkL_tail hx.rn hx.an 0 _ rfl
  have qA : ∀ j v, (anL x.ans xa)[j]? = some v → (pkL x xe xa xc xv xb).toArray[44 + j]? = some v := pkL_ans hx.rn
  have qC : ∀ j v, (cfL x.conf xc ++ [xv, xb])[j]? = some v → (pkL x xe xa xc xv xb).toArray[82 + j]? = some v := pkL_tail hx.rn hx.an
  obtain ⟨X, hX⟩ : ∃ X, pkL x xe xa xc xv xb = X := ⟨_, rfl⟩
  rw [hX] at hXl c0 c2 c44 c45 c82 qA qC ⊢
  obtain ⟨Z, hZ⟩ : ∃ Z, anL anZero nilV = Z := ⟨_, rfl⟩
  have hzv := zv_an
  have hzl := anZ_len
  have hz1 := anZ_one
  rw [hZ] at hzv hzl hz1
  obtain ⟨A, cc, g, rfl, _, h3, _⟩ := h.chain
  obtain ⟨n, hn⟩ : ∃ n, s.conf.chain.length = n := ⟨_, rfl⟩
  have hnm : n ≤ 9223372036854775807 := by unfold maxLen at h3; omega
  have k1 := (keepBut.refl [] w).alloc (.cells X.toArray 44)
  have r1 := rowAt.new w 44 X.toArray
  have hs1 : (w.alloc (.cells X.toArray 44)).heap.size = w.heap.size + 1 := World.size_alloc ..
  obtain ⟨w1, hw1⟩ : ∃ w1, w.alloc (.cells X.toArray 44) = w1 := ⟨_, rfl⟩
  rw [hw1] at k1 r1 hs1
  have k2 := (keepBut.refl [] w1).alloc (.cells Z.toArray 39)
  have r2 := rowAt.new w1 39 Z.toArray
  obtain ⟨w2, hw2⟩ : ∃ w2, w1.alloc (.cells Z.toArray 39) = w2 := ⟨_, rfl⟩
  rw [hw2] at k2 r2
  have r1' := k2.row r1 (by simp)
  have k12 := k1.then k2 (by simp)
  obtain ⟨b, hbb⟩ : ∃ b, w.heap.size = b := ⟨_, rfl⟩
  obtain ⟨d, hd⟩ : ∃ d, w1.heap.size = d := ⟨_, rfl⟩
  have HS := Lib.hid (And.intro hbb (And.intro hd hs1))
  have hpw := h.row.lt
  rw [hbb] at r1'
  rw [hd] at r2
  have HC := Lib.hid (And.intro c0 (And.intro c2 (And.intro c44 (And.intro c45 (And.intro c82 (And.intro hn (And.intro qA qC)))))))
  have HZ := Lib.hid (And.intro hZ (And.intro hzl (And.intro hz1 hpw)))
  have HW := Lib.hid (And.intro hw1 (And.intro hw2 hzv))
  have HZE := Lib.hid (congrArg Value.agg (anZero_cells.symm.trans (congrArg List.toArray hZ)))
  have H2 := Lib.hid (And.intro k12 (And.intro (h.over k12) (And.intro r1' r2)))
  have HX := Lib.hid (And.intro hx (And.intro hb (And.intro h hXl)))
  obtain ⟨hb1, hb2⟩ := hb
  have hne : (x.dst != 20 + s.client) = false := by simp [hc]
  have e7 : (x.kind == 7) = false := by simp [hk2]
  have e2 : (x.kind == 2) = true := by simp [hk2]
  have HWT := Lib.hid hw
  clear h k1 r1 k2 r2 k12 hw1 hw2 hzv hzl hz1 hs1 hX hpw r1' hZ hXl hx c0 c2 c44 c45 c82 hn qA qC h3 hc hk2 hw
  have yd := (H2.out.2.2.1.cell 2).trans HC.out.2.1
  have z0 := H2.out.2.1.cells.1
  go_enter Tryd.func35, Tryd.ntmps35
  go_upto_region 1 with (first
    | (with_reducible refine wpList_box_to _ _ rfl 44 (.tmp 1) rfl _ rfl HW.out.1 ?_)
    | (with_reducible refine wpList_alloc_to _ _ rfl 39 rfl _ HW.out.2.2 HW.out.2.1 ?_))
  try simp only [hbb, hd]
  go_quiet (fail)
  have k9 : keepBut [] w2 (w2.drewN nq) := (keepBut.refl [] w2).drewN nq
  generalize w2.drewN nq = w3 at k9 ⊢
  have H3 := Lib.hid (And.intro (H2.out.1.then k9 (by simp)) (And.intro (H2.out.2.1.over k9) (And.intro (k9.row H2.out.2.2.1 (by simp)) (k9.row H2.out.2.2.2 (by simp)))))
  clear k9
  clear yd z0
  go_upto_region 3 with (fail)
  have yk := (H3.out.2.2.1.cell 0).trans HC.out.1
  have yc := (H3.out.2.2.1.cell 82).trans HC.out.2.2.2.2.1
  have z4 := H3.out.2.1.cells.2.2.2.2.1
  have z6 := H3.out.2.1.cells.2.2.2.2.2.2.1
  rw [HC.out.2.2.2.2.2.1] at z6
  go_quiet (fail)
  have k9 : keepBut [] w3 (w3.drewN nq) := (keepBut.refl [] w3).drewN nq
  generalize w3.drewN nq = w4 at k9 ⊢
  have H4 := Lib.hid (And.intro (H3.out.1.then k9 (by simp)) (And.intro (H3.out.2.1.over k9) (And.intro (k9.row H3.out.2.2.1 (by simp)) (k9.row H3.out.2.2.2 (by simp)))))
  clear k9
  clear yk yc z4 z6
  go_upto_region 6 with (fail)
  have yk := (H4.out.2.2.1.cell 0).trans HC.out.1
  have ya := (H4.out.2.2.1.cell 44).trans HC.out.2.2.1
  have ym := (H4.out.2.2.1.cell 45).trans HC.out.2.2.2.1
  have z0 := H4.out.2.1.cells.1
  have z44 := H4.out.2.1.cells.2.2.2.2.2.2.2.1
  have z48 := H4.out.2.1.cells.2.2.2.2.2.2.2.2.2.2.2
  rw [HWT.out] at z44
  go_quiet (fail)
  have k9 : keepBut [] w4 (w4.drewN nq) := (keepBut.refl [] w4).drewN nq
  generalize w4.drewN nq = w5 at k9 ⊢
  have H5 := Lib.hid (And.intro (H4.out.1.then k9 (by simp)) (And.intro (H4.out.2.1.over k9) (And.intro (k9.row H4.out.2.2.1 (by simp)) (k9.row H4.out.2.2.2 (by simp)))))
  clear k9
  clear yk ya ym z0 z44 z48
  have HT := Lib.hid (H5.out.2.2.2.there (o := 0) (n := 38) (by rw [List.size_toArray, HZ.out.2.1]; decide))
  go_wp2_with (first
    | (refine wpList_store_mid rfl 39 (.tmp 4) (.tmp 82) rfl d 0 Z.toArray rfl HZE.out (by rw [List.size_toArray, HZ.out.2.1]; exact HT.out) (by rw [List.size_toArray, HZ.out.2.1]; exact info_anS) (by simpa using HZ.out.2.2.1) ?_))
  have r9 := set0 (H5.out.2.2.2) (rfl : Z.length = Z.length)
  refine bodyPost_ret (results_row_tmp rfl _ _ d 39 _ (0, 0) _ rfl r9 Tryd.underlying39 rfl (by rw [List.size_toArray, HZ.out.2.1]; exact info_anS)) rfl ?_
  have k5 : keepBut [d] w5 (w5.setCells d 0 Z) := (keepBut.refl _ _).setL (.inl (by simp))
  refine ⟨nilV, [], _, [], by rw [HZ.out.1]; rfl, anZero_val _ _, by simp [newIn], (show isM w5 p _ _ ev (F ++ []) by rw [List.append_nil]; exact H5.out.2.1).keep k5 ?_ (fun y hy hm => ?_), by simp [newIn], (show keepBut [p] w w5 from H5.out.1.more (by simp)).then k5 (fun y hy => .inr ?_)⟩
  · have := HZ.out.2.2.2; have := HS.out; simp only [List.mem_singleton]; omega
  · simp only [List.mem_singleton] at hm
    have h1 := (HX.out.2.2.1.far y (by simp only [List.append_nil] at hy; simp [hy])).1
    have := HS.out
    omega
  · simp only [List.mem_singleton] at hy; have := HS.out; omega
set_option maxHeartbeats 4000000 in
theorem takeM_alien (hb : 0 ≤ s.client ∧ s.client ≤ 2) (G : List Nat) (hx : pkV w G x xe xa xc xv xb) (hc : x.dst = 20 + s.client) (hk2 : x.kind = 2) (hw : s.waits = true) (ha : x.ans.client ≠ s.client) :
    Calls Tryd.prog 35 #[.pointer (some ⟨p, 0, none⟩), .agg (pkL x xe xa xc xv xb).toArray] w (takeMPost p ((anZero, false), s) ev F w) := by
  have hXl := pkL_len (p := x) (ev := xe) (av := xa) (cv := xc) (vv := xv) (bw := xb) hx.rn hx.an
  have c0 : (pkL x xe xa xc xv xb).toArray[0]? = some (.int .i64 x.kind) := rfl
  have c2 : (pkL x xe xa xc xv xb).toArray[2]? = some (.int .i64 x.dst) := rfl
  have c44 : (pkL x xe xa xc xv xb).toArray[44]? = some (.int .i64 x.ans.client) := pkL_ans hx.rn 0 _ rfl
  have c45 : (pkL x xe xa xc xv xb).toArray[45]? = some (.int .i64 x.ans.num) := pkL_ans hx.rn 1 _ rfl
  have c82 : (pkL x xe xa xc xv xb).toArray[82]? = some (.int .i64 x.conf.num) := pkL_tail hx.rn hx.an 0 _ rfl
  have qA : ∀ j v, (anL x.ans xa)[j]? = some v → (pkL x xe xa xc xv xb).toArray[44 + j]? = some v := pkL_ans hx.rn
  have qC : ∀ j v, (cfL x.conf xc ++ [xv, xb])[j]? = some v → (pkL x xe xa xc xv xb).toArray[82 + j]? = some v := pkL_tail hx.rn hx.an
  obtain ⟨X, hX⟩ : ∃ X, pkL x xe xa xc xv xb = X := ⟨_, rfl⟩
  rw [hX] at hXl c0 c2 c44 c45 c82 qA qC ⊢
  obtain ⟨Z, hZ⟩ : ∃ Z, anL anZero nilV = Z := ⟨_, rfl⟩
  have hzv := zv_an
  have hzl := anZ_len
  have hz1 := anZ_one
  rw [hZ] at hzv hzl hz1
  obtain ⟨A, cc, g, rfl, _, h3, _⟩ := h.chain
  obtain ⟨n, hn⟩ : ∃ n, s.conf.chain.length = n := ⟨_, rfl⟩
  have hnm : n ≤ 9223372036854775807 := by unfold maxLen at h3; omega
  have k1 := (keepBut.refl [] w).alloc (.cells X.toArray 44)
  have r1 := rowAt.new w 44 X.toArray
  have hs1 : (w.alloc (.cells X.toArray 44)).heap.size = w.heap.size + 1 := World.size_alloc ..
  obtain ⟨w1, hw1⟩ : ∃ w1, w.alloc (.cells X.toArray 44) = w1 := ⟨_, rfl⟩
  rw [hw1] at k1 r1 hs1
  have k2 := (keepBut.refl [] w1).alloc (.cells Z.toArray 39)
  have r2 := rowAt.new w1 39 Z.toArray
  obtain ⟨w2, hw2⟩ : ∃ w2, w1.alloc (.cells Z.toArray 39) = w2 := ⟨_, rfl⟩
  rw [hw2] at k2 r2
  have r1' := k2.row r1 (by simp)
  have k12 := k1.then k2 (by simp)
  obtain ⟨b, hbb⟩ : ∃ b, w.heap.size = b := ⟨_, rfl⟩
  obtain ⟨d, hd⟩ : ∃ d, w1.heap.size = d := ⟨_, rfl⟩
  have HS := Lib.hid (And.intro hbb (And.intro hd hs1))
  have hpw := h.row.lt
  rw [hbb] at r1'
  rw [hd] at r2
  have HC := Lib.hid (And.intro c0 (And.intro c2 (And.intro c44 (And.intro c45 (And.intro c82 (And.intro hn (And.intro qA qC)))))))
  have HZ := Lib.hid (And.intro hZ (And.intro hzl (And.intro hz1 hpw)))
  have HW := Lib.hid (And.intro hw1 (And.intro hw2 hzv))
  have HZE := Lib.hid (congrArg Value.agg (anZero_cells.symm.trans (congrArg List.toArray hZ)))
  have H2 := Lib.hid (And.intro k12 (And.intro (h.over k12) (And.intro r1' r2)))
  have HX := Lib.hid (And.intro hx (And.intro hb (And.intro h hXl)))
  obtain ⟨hb1, hb2⟩ := hb
  have hne : (x.dst != 20 + s.client) = false := by simp [hc]
  have e7 : (x.kind == 7) = false := by simp [hk2]
  have e2 : (x.kind == 2) = true := by simp [hk2]
  have HWT := Lib.hid hw
  have ea : (x.ans.client == s.client) = false := by simp [ha]
  clear h k1 r1 k2 r2 k12 hw1 hw2 hzv hzl hz1 hs1 hX hpw r1' hZ hXl hx c0 c2 c44 c45 c82 hn qA qC h3 hc hk2 hw ha
  have yd := (H2.out.2.2.1.cell 2).trans HC.out.2.1
  have z0 := H2.out.2.1.cells.1
  go_enter Tryd.func35, Tryd.ntmps35
  go_upto_region 1 with (first
    | (with_reducible refine wpList_box_to _ _ rfl 44 (.tmp 1) rfl _ rfl HW.out.1 ?_)
    | (with_reducible refine wpList_alloc_to _ _ rfl 39 rfl _ HW.out.2.2 HW.out.2.1 ?_))
  try simp only [hbb, hd]
  go_quiet (fail)
  have k9 : keepBut [] w2 (w2.drewN nq) := (keepBut.refl [] w2).drewN nq
  generalize w2.drewN nq = w3 at k9 ⊢
  have H3 := Lib.hid (And.intro (H2.out.1.then k9 (by simp)) (And.intro (H2.out.2.1.over k9) (And.intro (k9.row H2.out.2.2.1 (by simp)) (k9.row H2.out.2.2.2 (by simp)))))
  clear k9
  clear yd z0
  go_upto_region 3 with (fail)
  have yk := (H3.out.2.2.1.cell 0).trans HC.out.1
  have yc := (H3.out.2.2.1.cell 82).trans HC.out.2.2.2.2.1
  have z4 := H3.out.2.1.cells.2.2.2.2.1
  have z6 := H3.out.2.1.cells.2.2.2.2.2.2.1
  rw [HC.out.2.2.2.2.2.1] at z6
  go_quiet (fail)
  have k9 : keepBut [] w3 (w3.drewN nq) := (keepBut.refl [] w3).drewN nq
  generalize w3.drewN nq = w4 at k9 ⊢
  have H4 := Lib.hid (And.intro (H3.out.1.then k9 (by simp)) (And.intro (H3.out.2.1.over k9) (And.intro (k9.row H3.out.2.2.1 (by simp)) (k9.row H3.out.2.2.2 (by simp)))))
  clear k9
  clear yk yc z4 z6
  go_upto_region 6 with (fail)
  have yk := (H4.out.2.2.1.cell 0).trans HC.out.1
  have ya := (H4.out.2.2.1.cell 44).trans HC.out.2.2.1
  have ym := (H4.out.2.2.1.cell 45).trans HC.out.2.2.2.1
  have z0 := H4.out.2.1.cells.1
  have z44 := H4.out.2.1.cells.2.2.2.2.2.2.2.1
  have z48 := H4.out.2.1.cells.2.2.2.2.2.2.2.2.2.2.2
  rw [HWT.out] at z44
  go_quiet (fail)
  have k9 : keepBut [] w4 (w4.drewN nq) := (keepBut.refl [] w4).drewN nq
  generalize w4.drewN nq = w5 at k9 ⊢
  have H5 := Lib.hid (And.intro (H4.out.1.then k9 (by simp)) (And.intro (H4.out.2.1.over k9) (And.intro (k9.row H4.out.2.2.1 (by simp)) (k9.row H4.out.2.2.2 (by simp)))))
  clear k9
  clear yk ya ym z0 z44 z48
  have HT := Lib.hid (H5.out.2.2.2.there (o := 0) (n := 38) (by rw [List.size_toArray, HZ.out.2.1]; decide))
  go_wp2_with (first
    | (refine wpList_store_mid rfl 39 (.tmp 4) (.tmp 82) rfl d 0 Z.toArray rfl HZE.out (by rw [List.size_toArray, HZ.out.2.1]; exact HT.out) (by rw [List.size_toArray, HZ.out.2.1]; exact info_anS) (by simpa using HZ.out.2.2.1) ?_))
  have r9 := set0 (H5.out.2.2.2) (rfl : Z.length = Z.length)
  refine bodyPost_ret (results_row_tmp rfl _ _ d 39 _ (0, 0) _ rfl r9 Tryd.underlying39 rfl (by rw [List.size_toArray, HZ.out.2.1]; exact info_anS)) rfl ?_
  have k5 : keepBut [d] w5 (w5.setCells d 0 Z) := (keepBut.refl _ _).setL (.inl (by simp))
  refine ⟨nilV, [], _, [], by rw [HZ.out.1]; rfl, anZero_val _ _, by simp [newIn], (show isM w5 p _ _ ev (F ++ []) by rw [List.append_nil]; exact H5.out.2.1).keep k5 ?_ (fun y hy hm => ?_), by simp [newIn], (show keepBut [p] w w5 from H5.out.1.more (by simp)).then k5 (fun y hy => .inr ?_)⟩
  · have := HZ.out.2.2.2; have := HS.out; simp only [List.mem_singleton]; omega
  · simp only [List.mem_singleton] at hm
    have h1 := (HX.out.2.2.1.far y (by simp only [List.append_nil] at hy; simp [hy])).1
    have := HS.out
    omega
  · simp only [List.mem_singleton] at hy; have := HS.out; omega
set_option maxHeartbeats 4000000 in
theorem takeM_stale (hb : 0 ≤ s.client ∧ s.client ≤ 2) (G : List Nat) (hx : pkV w G x xe xa xc xv xb) (hc : x.dst = 20 + s.client) (hk2 : x.kind = 2) (hw : s.waits = true) (ha : x.ans.client = s.client) (hm : x.ans.num ≠ s.last) :
    Calls Tryd.prog 35 #[.pointer (some ⟨p, 0, none⟩), .agg (pkL x xe xa xc xv xb).toArray] w (takeMPost p ((anZero, false), s) ev F w) := by
  have hXl := pkL_len (p := x) (ev := xe) (av := xa) (cv := xc) (vv := xv) (bw := xb) hx.rn hx.an
  have c0 : (pkL x xe xa xc xv xb).toArray[0]? = some (.int .i64 x.kind) := rfl
  have c2 : (pkL x xe xa xc xv xb).toArray[2]? = some (.int .i64 x.dst) := rfl
  have c44 : (pkL x xe xa xc xv xb).toArray[44]? = some (.int .i64 x.ans.client) := pkL_ans hx.rn 0 _ rfl
  have c45 : (pkL x xe xa xc xv xb).toArray[45]? = some (.int .i64 x.ans.num) := pkL_ans hx.rn 1 _ rfl
  have c82 : (pkL x xe xa xc xv xb).toArray[82]? = some (.int .i64 x.conf.num) := pkL_tail hx.rn hx.an 0 _ rfl
  have qA : ∀ j v, (anL x.ans xa)[j]? = some v → (pkL x xe xa xc xv xb).toArray[44 + j]? = some v := pkL_ans hx.rn
  have qC : ∀ j v, (cfL x.conf xc ++ [xv, xb])[j]? = some v → (pkL x xe xa xc xv xb).toArray[82 + j]? = some v := pkL_tail hx.rn hx.an
  obtain ⟨X, hX⟩ : ∃ X, pkL x xe xa xc xv xb = X := ⟨_, rfl⟩
  rw [hX] at hXl c0 c2 c44 c45 c82 qA qC ⊢
  obtain ⟨Z, hZ⟩ : ∃ Z, anL anZero nilV = Z := ⟨_, rfl⟩
  have hzv := zv_an
  have hzl := anZ_len
  have hz1 := anZ_one
  rw [hZ] at hzv hzl hz1
  obtain ⟨A, cc, g, rfl, _, h3, _⟩ := h.chain
  obtain ⟨n, hn⟩ : ∃ n, s.conf.chain.length = n := ⟨_, rfl⟩
  have hnm : n ≤ 9223372036854775807 := by unfold maxLen at h3; omega
  have k1 := (keepBut.refl [] w).alloc (.cells X.toArray 44)
  have r1 := rowAt.new w 44 X.toArray
  have hs1 : (w.alloc (.cells X.toArray 44)).heap.size = w.heap.size + 1 := World.size_alloc ..
  obtain ⟨w1, hw1⟩ : ∃ w1, w.alloc (.cells X.toArray 44) = w1 := ⟨_, rfl⟩
  rw [hw1] at k1 r1 hs1
  have k2 := (keepBut.refl [] w1).alloc (.cells Z.toArray 39)
  have r2 := rowAt.new w1 39 Z.toArray
  obtain ⟨w2, hw2⟩ : ∃ w2, w1.alloc (.cells Z.toArray 39) = w2 := ⟨_, rfl⟩
  rw [hw2] at k2 r2
  have r1' := k2.row r1 (by simp)
  have k12 := k1.then k2 (by simp)
  obtain ⟨b, hbb⟩ : ∃ b, w.heap.size = b := ⟨_, rfl⟩
  obtain ⟨d, hd⟩ : ∃ d, w1.heap.size = d := ⟨_, rfl⟩
  have HS := Lib.hid (And.intro hbb (And.intro hd hs1))
  have hpw := h.row.lt
  rw [hbb] at r1'
  rw [hd] at r2
  have HC := Lib.hid (And.intro c0 (And.intro c2 (And.intro c44 (And.intro c45 (And.intro c82 (And.intro hn (And.intro qA qC)))))))
  have HZ := Lib.hid (And.intro hZ (And.intro hzl (And.intro hz1 hpw)))
  have HW := Lib.hid (And.intro hw1 (And.intro hw2 hzv))
  have HZE := Lib.hid (congrArg Value.agg (anZero_cells.symm.trans (congrArg List.toArray hZ)))
  have H2 := Lib.hid (And.intro k12 (And.intro (h.over k12) (And.intro r1' r2)))
  have HX := Lib.hid (And.intro hx (And.intro hb (And.intro h hXl)))
  obtain ⟨hb1, hb2⟩ := hb
  have hne : (x.dst != 20 + s.client) = false := by simp [hc]
  have e7 : (x.kind == 7) = false := by simp [hk2]
  have e2 : (x.kind == 2) = true := by simp [hk2]
  have HWT := Lib.hid hw
  have ea : (x.ans.client == s.client) = true := by simp [ha]
  have em : (x.ans.num == s.last) = false := by simp [hm]
  clear h k1 r1 k2 r2 k12 hw1 hw2 hzv hzl hz1 hs1 hX hpw r1' hZ hXl hx c0 c2 c44 c45 c82 hn qA qC h3 hc hk2 hw ha hm
  have yd := (H2.out.2.2.1.cell 2).trans HC.out.2.1
  have z0 := H2.out.2.1.cells.1
  go_enter Tryd.func35, Tryd.ntmps35
  go_upto_region 1 with (first
    | (with_reducible refine wpList_box_to _ _ rfl 44 (.tmp 1) rfl _ rfl HW.out.1 ?_)
    | (with_reducible refine wpList_alloc_to _ _ rfl 39 rfl _ HW.out.2.2 HW.out.2.1 ?_))
  try simp only [hbb, hd]
  go_quiet (fail)
  have k9 : keepBut [] w2 (w2.drewN nq) := (keepBut.refl [] w2).drewN nq
  generalize w2.drewN nq = w3 at k9 ⊢
  have H3 := Lib.hid (And.intro (H2.out.1.then k9 (by simp)) (And.intro (H2.out.2.1.over k9) (And.intro (k9.row H2.out.2.2.1 (by simp)) (k9.row H2.out.2.2.2 (by simp)))))
  clear k9
  clear yd z0
  go_upto_region 3 with (fail)
  have yk := (H3.out.2.2.1.cell 0).trans HC.out.1
  have yc := (H3.out.2.2.1.cell 82).trans HC.out.2.2.2.2.1
  have z4 := H3.out.2.1.cells.2.2.2.2.1
  have z6 := H3.out.2.1.cells.2.2.2.2.2.2.1
  rw [HC.out.2.2.2.2.2.1] at z6
  go_quiet (fail)
  have k9 : keepBut [] w3 (w3.drewN nq) := (keepBut.refl [] w3).drewN nq
  generalize w3.drewN nq = w4 at k9 ⊢
  have H4 := Lib.hid (And.intro (H3.out.1.then k9 (by simp)) (And.intro (H3.out.2.1.over k9) (And.intro (k9.row H3.out.2.2.1 (by simp)) (k9.row H3.out.2.2.2 (by simp)))))
  clear k9
  clear yk yc z4 z6
  go_upto_region 6 with (fail)
  have yk := (H4.out.2.2.1.cell 0).trans HC.out.1
  have ya := (H4.out.2.2.1.cell 44).trans HC.out.2.2.1
  have ym := (H4.out.2.2.1.cell 45).trans HC.out.2.2.2.1
  have z0 := H4.out.2.1.cells.1
  have z44 := H4.out.2.1.cells.2.2.2.2.2.2.2.1
  have z48 := H4.out.2.1.cells.2.2.2.2.2.2.2.2.2.2.2
  rw [HWT.out] at z44
  go_quiet (fail)
  have k9 : keepBut [] w4 (w4.drewN nq) := (keepBut.refl [] w4).drewN nq
  generalize w4.drewN nq = w5 at k9 ⊢
  have H5 := Lib.hid (And.intro (H4.out.1.then k9 (by simp)) (And.intro (H4.out.2.1.over k9) (And.intro (k9.row H4.out.2.2.1 (by simp)) (k9.row H4.out.2.2.2 (by simp)))))
  clear k9
  clear yk ya ym z0 z44 z48
  have HT := Lib.hid (H5.out.2.2.2.there (o := 0) (n := 38) (by rw [List.size_toArray, HZ.out.2.1]; decide))
  go_wp2_with (first
    | (refine wpList_store_mid rfl 39 (.tmp 4) (.tmp 82) rfl d 0 Z.toArray rfl HZE.out (by rw [List.size_toArray, HZ.out.2.1]; exact HT.out) (by rw [List.size_toArray, HZ.out.2.1]; exact info_anS) (by simpa using HZ.out.2.2.1) ?_))
  have r9 := set0 (H5.out.2.2.2) (rfl : Z.length = Z.length)
  refine bodyPost_ret (results_row_tmp rfl _ _ d 39 _ (0, 0) _ rfl r9 Tryd.underlying39 rfl (by rw [List.size_toArray, HZ.out.2.1]; exact info_anS)) rfl ?_
  have k5 : keepBut [d] w5 (w5.setCells d 0 Z) := (keepBut.refl _ _).setL (.inl (by simp))
  refine ⟨nilV, [], _, [], by rw [HZ.out.1]; rfl, anZero_val _ _, by simp [newIn], (show isM w5 p _ _ ev (F ++ []) by rw [List.append_nil]; exact H5.out.2.1).keep k5 ?_ (fun y hy hm => ?_), by simp [newIn], (show keepBut [p] w w5 from H5.out.1.more (by simp)).then k5 (fun y hy => .inr ?_)⟩
  · have := HZ.out.2.2.2; have := HS.out; simp only [List.mem_singleton]; omega
  · simp only [List.mem_singleton] at hm
    have h1 := (HX.out.2.2.1.far y (by simp only [List.append_nil] at hy; simp [hy])).1
    have := HS.out
    omega
  · simp only [List.mem_singleton] at hy; have := HS.out; omega
set_option maxHeartbeats 4000000 in
theorem takeM_old (hb : 0 ≤ s.client ∧ s.client ≤ 2) (G : List Nat) (hx : pkV w G x xe xa xc xv xb) (hc : x.dst = 20 + s.client) (h7 : x.kind = 7) (hnw : ¬ (s.conf.num < x.conf.num ∨ s.conf.chain = [])) :
    Calls Tryd.prog 35 #[.pointer (some ⟨p, 0, none⟩), .agg (pkL x xe xa xc xv xb).toArray] w (takeMPost p ((anZero, false), s) ev F w) := by
  have hXl := pkL_len (p := x) (ev := xe) (av := xa) (cv := xc) (vv := xv) (bw := xb) hx.rn hx.an
  have c0 : (pkL x xe xa xc xv xb).toArray[0]? = some (.int .i64 x.kind) := rfl
  have c2 : (pkL x xe xa xc xv xb).toArray[2]? = some (.int .i64 x.dst) := rfl
  have c44 : (pkL x xe xa xc xv xb).toArray[44]? = some (.int .i64 x.ans.client) := pkL_ans hx.rn 0 _ rfl
  have c45 : (pkL x xe xa xc xv xb).toArray[45]? = some (.int .i64 x.ans.num) := pkL_ans hx.rn 1 _ rfl
  have c82 : (pkL x xe xa xc xv xb).toArray[82]? = some (.int .i64 x.conf.num) := pkL_tail hx.rn hx.an 0 _ rfl
  have qA : ∀ j v, (anL x.ans xa)[j]? = some v → (pkL x xe xa xc xv xb).toArray[44 + j]? = some v := pkL_ans hx.rn
  have qC : ∀ j v, (cfL x.conf xc ++ [xv, xb])[j]? = some v → (pkL x xe xa xc xv xb).toArray[82 + j]? = some v := pkL_tail hx.rn hx.an
  obtain ⟨X, hX⟩ : ∃ X, pkL x xe xa xc xv xb = X := ⟨_, rfl⟩
  rw [hX] at hXl c0 c2 c44 c45 c82 qA qC ⊢
  obtain ⟨Z, hZ⟩ : ∃ Z, anL anZero nilV = Z := ⟨_, rfl⟩
  have hzv := zv_an
  have hzl := anZ_len
  have hz1 := anZ_one
  rw [hZ] at hzv hzl hz1
  obtain ⟨A, cc, g, rfl, _, h3, _⟩ := h.chain
  obtain ⟨n, hn⟩ : ∃ n, s.conf.chain.length = n := ⟨_, rfl⟩
  have hnm : n ≤ 9223372036854775807 := by unfold maxLen at h3; omega
  have k1 := (keepBut.refl [] w).alloc (.cells X.toArray 44)
  have r1 := rowAt.new w 44 X.toArray
  have hs1 : (w.alloc (.cells X.toArray 44)).heap.size = w.heap.size + 1 := World.size_alloc ..
  obtain ⟨w1, hw1⟩ : ∃ w1, w.alloc (.cells X.toArray 44) = w1 := ⟨_, rfl⟩
  rw [hw1] at k1 r1 hs1
  have k2 := (keepBut.refl [] w1).alloc (.cells Z.toArray 39)
  have r2 := rowAt.new w1 39 Z.toArray
  obtain ⟨w2, hw2⟩ : ∃ w2, w1.alloc (.cells Z.toArray 39) = w2 := ⟨_, rfl⟩
  rw [hw2] at k2 r2
  have r1' := k2.row r1 (by simp)
  have k12 := k1.then k2 (by simp)
  obtain ⟨b, hbb⟩ : ∃ b, w.heap.size = b := ⟨_, rfl⟩
  obtain ⟨d, hd⟩ : ∃ d, w1.heap.size = d := ⟨_, rfl⟩
  have HS := Lib.hid (And.intro hbb (And.intro hd hs1))
  have hpw := h.row.lt
  rw [hbb] at r1'
  rw [hd] at r2
  have HC := Lib.hid (And.intro c0 (And.intro c2 (And.intro c44 (And.intro c45 (And.intro c82 (And.intro hn (And.intro qA qC)))))))
  have HZ := Lib.hid (And.intro hZ (And.intro hzl (And.intro hz1 hpw)))
  have HW := Lib.hid (And.intro hw1 (And.intro hw2 hzv))
  have HZE := Lib.hid (congrArg Value.agg (anZero_cells.symm.trans (congrArg List.toArray hZ)))
  have H2 := Lib.hid (And.intro k12 (And.intro (h.over k12) (And.intro r1' r2)))
  have HX := Lib.hid (And.intro hx (And.intro hb (And.intro h hXl)))
  obtain ⟨hb1, hb2⟩ := hb
  have hne : (x.dst != 20 + s.client) = false := by simp [hc]
  have e7 : (x.kind == 7) = true := by simp [h7]
  have e2 : (x.kind == 2) = false := by simp [h7]
  have hne2 : ((n : Int) == 0) = false := by
    have : ¬ s.conf.chain.length = 0 := fun h0 => hnw (.inr (List.length_eq_zero_iff.1 h0))
    simp; omega
  have hdd : decide (s.conf.num < x.conf.num) = false := by simp only [decide_eq_false_iff_not]; exact fun h => hnw (.inl h)
  clear h k1 r1 k2 r2 k12 hw1 hw2 hzv hzl hz1 hs1 hX hpw r1' hZ hXl hx c0 c2 c44 c45 c82 hn qA qC h3 hc h7 hnw
  have yd := (H2.out.2.2.1.cell 2).trans HC.out.2.1
  have z0 := H2.out.2.1.cells.1
  go_enter Tryd.func35, Tryd.ntmps35
  go_upto_region 1 with (first
    | (with_reducible refine wpList_box_to _ _ rfl 44 (.tmp 1) rfl _ rfl HW.out.1 ?_)
    | (with_reducible refine wpList_alloc_to _ _ rfl 39 rfl _ HW.out.2.2 HW.out.2.1 ?_))
  try simp only [hbb, hd]
  go_quiet (fail)
  have k9 : keepBut [] w2 (w2.drewN nq) := (keepBut.refl [] w2).drewN nq
  generalize w2.drewN nq = w3 at k9 ⊢
  have H3 := Lib.hid (And.intro (H2.out.1.then k9 (by simp)) (And.intro (H2.out.2.1.over k9) (And.intro (k9.row H2.out.2.2.1 (by simp)) (k9.row H2.out.2.2.2 (by simp)))))
  clear k9
  clear yd z0
  go_upto_region 3 with (fail)
  have yk := (H3.out.2.2.1.cell 0).trans HC.out.1
  have yc := (H3.out.2.2.1.cell 82).trans HC.out.2.2.2.2.1
  have z4 := H3.out.2.1.cells.2.2.2.2.1
  have z6 := H3.out.2.1.cells.2.2.2.2.2.2.1
  rw [HC.out.2.2.2.2.2.1] at z6
  go_quiet (fail)
  have k9 : keepBut [] w3 (w3.drewN nq) := (keepBut.refl [] w3).drewN nq
  generalize w3.drewN nq = w4 at k9 ⊢
  have H4 := Lib.hid (And.intro (H3.out.1.then k9 (by simp)) (And.intro (H3.out.2.1.over k9) (And.intro (k9.row H3.out.2.2.1 (by simp)) (k9.row H3.out.2.2.2 (by simp)))))
  clear k9
  clear yk yc z4 z6
  go_upto_region 6 with (fail)
  have yk := (H4.out.2.2.1.cell 0).trans HC.out.1
  have ya := (H4.out.2.2.1.cell 44).trans HC.out.2.2.1
  have ym := (H4.out.2.2.1.cell 45).trans HC.out.2.2.2.1
  have z0 := H4.out.2.1.cells.1
  have z44 := H4.out.2.1.cells.2.2.2.2.2.2.2.1
  have z48 := H4.out.2.1.cells.2.2.2.2.2.2.2.2.2.2.2
  go_quiet (fail)
  have k9 : keepBut [] w4 (w4.drewN nq) := (keepBut.refl [] w4).drewN nq
  generalize w4.drewN nq = w5 at k9 ⊢
  have H5 := Lib.hid (And.intro (H4.out.1.then k9 (by simp)) (And.intro (H4.out.2.1.over k9) (And.intro (k9.row H4.out.2.2.1 (by simp)) (k9.row H4.out.2.2.2 (by simp)))))
  clear k9
  clear yk ya ym z0 z44 z48
  have HT := Lib.hid (H5.out.2.2.2.there (o := 0) (n := 38) (by rw [List.size_toArray, HZ.out.2.1]; decide))
  go_wp2_with (first
    | (refine wpList_store_mid rfl 39 (.tmp 4) (.tmp 82) rfl d 0 Z.toArray rfl HZE.out (by rw [List.size_toArray, HZ.out.2.1]; exact HT.out) (by rw [List.size_toArray, HZ.out.2.1]; exact info_anS) (by simpa using HZ.out.2.2.1) ?_))
  have r9 := set0 (H5.out.2.2.2) (rfl : Z.length = Z.length)
  refine bodyPost_ret (results_row_tmp rfl _ _ d 39 _ (0, 0) _ rfl r9 Tryd.underlying39 rfl (by rw [List.size_toArray, HZ.out.2.1]; exact info_anS)) rfl ?_
  have k5 : keepBut [d] w5 (w5.setCells d 0 Z) := (keepBut.refl _ _).setL (.inl (by simp))
  refine ⟨nilV, [], _, [], by rw [HZ.out.1]; rfl, anZero_val _ _, by simp [newIn], (show isM w5 p _ _ ev (F ++ []) by rw [List.append_nil]; exact H5.out.2.1).keep k5 ?_ (fun y hy hm => ?_), by simp [newIn], (show keepBut [p] w w5 from H5.out.1.more (by simp)).then k5 (fun y hy => .inr ?_)⟩
  · have := HZ.out.2.2.2; have := HS.out; simp only [List.mem_singleton]; omega
  · simp only [List.mem_singleton] at hm
    have h1 := (HX.out.2.2.1.far y (by simp only [List.append_nil] at hy; simp [hy])).1
    have := HS.out
    omega
  · simp only [List.mem_singleton] at hy; have := HS.out; omega
end
end Go.Proofs.YtkpmlcgbffdloaaDoor
end

section
namespace Go.Proofs.YtkpmlcgbffdloaaDoor
open Go.RowKit
set_option linter.unusedVariables false
set_option maxRecDepth 100000
set_option linter.unusedSimpArgs false

section
variable (p : Nat) (s : SS) (cv ev : Value) (F : List Nat) (x : PK) (xe xa xc xv xb : Value) (w : World) (h : isM w p s cv ev F)
include h
set_option maxHeartbeats 4000000 in
theorem takeM_conf1 (hb : 0 ≤ s.client ∧ s.client ≤ 2) (G : List Nat) (hx : pkV w G x xe xa xc xv xb) (hc : x.dst = 20 + s.client) (h7 : x.kind = 7) (hl : x.conf.chain.length ≤ 1000000) (hn2 : s.conf.num < x.conf.num) :
    Calls Tryd.prog 35 #[.pointer (some ⟨p, 0, none⟩), .agg (pkL x xe xa xc xv xb).toArray] w (takeMPost p ((anZero, false), (s.setConf x.conf).setSent false) ev F w) := by
  have hXl := pkL_len (p := x) (ev := xe) (av := xa) (cv := xc) (vv := xv) (bw := xb) hx.rn hx.an
  have c0 : (pkL x xe xa xc xv xb).toArray[0]? = some (.int .i64 x.kind) := rfl
  have c2 : (pkL x xe xa xc xv xb).toArray[2]? = some (.int .i64 x.dst) := rfl
  have c44 : (pkL x xe xa xc xv xb).toArray[44]? = some (.int .i64 x.ans.client) := pkL_ans hx.rn 0 _ rfl
  have c45 : (pkL x xe xa xc xv xb).toArray[45]? = some (.int .i64 x.ans.num) := pkL_ans hx.rn 1 _ rfl
  have c82 : (pkL x xe xa xc xv xb).toArray[82]? = some (.int .i64 x.conf.num) := pkL_tail hx.rn hx.an 0 _ rfl
  have qA : ∀ j v, (anL x.ans xa)[j]? = some v → (pkL x xe xa xc xv xb).toArray[44 + j]? = some v := pkL_ans hx.rn
  have qC : ∀ j v, (cfL x.conf xc ++ [xv, xb])[j]? = some v → (pkL x xe xa xc xv xb).toArray[82 + j]? = some v := pkL_tail hx.rn hx.an
  obtain ⟨X, hX⟩ : ∃ X, pkL x xe xa xc xv xb = X := ⟨_, rfl⟩
  rw [hX] at hXl c0 c2 c44 c45 c82 qA qC ⊢
  obtain ⟨Z, hZ⟩ : ∃ Z, anL anZero nilV = Z := ⟨_, rfl⟩
  have hzv := zv_an
  have hzl := anZ_len
  have hz1 := anZ_one
  rw [hZ] at hzv hzl hz1
  obtain ⟨A, cc, g, rfl, _, h3, _⟩ := h.chain
  obtain ⟨n, hn⟩ : ∃ n, s.conf.chain.length = n := ⟨_, rfl⟩
  have hnm : n ≤ 9223372036854775807 := by unfold maxLen at h3; omega
  have k1 := (keepBut.refl [] w).alloc (.cells X.toArray 44)
  have r1 := rowAt.new w 44 X.toArray
  have hs1 : (w.alloc (.cells X.toArray 44)).heap.size = w.heap.size + 1 := World.size_alloc ..
  obtain ⟨w1, hw1⟩ : ∃ w1, w.alloc (.cells X.toArray 44) = w1 := ⟨_, rfl⟩
  rw [hw1] at k1 r1 hs1
  have k2 := (keepBut.refl [] w1).alloc (.cells Z.toArray 39)
  have r2 := rowAt.new w1 39 Z.toArray
  obtain ⟨w2, hw2⟩ : ∃ w2, w1.alloc (.cells Z.toArray 39) = w2 := ⟨_, rfl⟩
  rw [hw2] at k2 r2
  have r1' := k2.row r1 (by simp)
  have k12 := k1.then k2 (by simp)
  obtain ⟨b, hbb⟩ : ∃ b, w.heap.size = b := ⟨_, rfl⟩
  obtain ⟨d, hd⟩ : ∃ d, w1.heap.size = d := ⟨_, rfl⟩
  have HS := Lib.hid (And.intro hbb (And.intro hd hs1))
  have hpw := h.row.lt
  rw [hbb] at r1'
  rw [hd] at r2
  have HC := Lib.hid (And.intro c0 (And.intro c2 (And.intro c44 (And.intro c45 (And.intro c82 (And.intro hn (And.intro qA qC)))))))
  have HZ := Lib.hid (And.intro hZ (And.intro hzl (And.intro hz1 hpw)))
  have HW := Lib.hid (And.intro hw1 (And.intro hw2 hzv))
  have HZE := Lib.hid (congrArg Value.agg (anZero_cells.symm.trans (congrArg List.toArray hZ)))
  have H2 := Lib.hid (And.intro k12 (And.intro (h.over k12) (And.intro r1' r2)))
  have HX := Lib.hid (And.intro hx (And.intro hb (And.intro h hXl)))
  obtain ⟨hb1, hb2⟩ := hb
  have hne : (x.dst != 20 + s.client) = false := by simp [hc]
  have e7 : (x.kind == 7) = true := by simp [h7]
  have e2 : (x.kind == 2) = false := by simp [h7]
  have hdd : decide (s.conf.num < x.conf.num) = true := by simp [hn2]
  have HL := Lib.hid hl
  clear h k1 r1 k2 r2 k12 hw1 hw2 hzv hzl hz1 hs1 hX hpw r1' hZ hXl hx c0 c2 c44 c45 c82 hn qA qC h3 hc h7 hl hn2
  have yd := (H2.out.2.2.1.cell 2).trans HC.out.2.1
  have z0 := H2.out.2.1.cells.1
  go_enter Tryd.func35, Tryd.ntmps35
  go_upto_region 1 with (first
    | (with_reducible refine wpList_box_to _ _ rfl 44 (.tmp 1) rfl _ rfl HW.out.1 ?_)
    | (with_reducible refine wpList_alloc_to _ _ rfl 39 rfl _ HW.out.2.2 HW.out.2.1 ?_))
  try simp only [hbb, hd]
  go_quiet (fail)
  have k9 : keepBut [] w2 (w2.drewN nq) := (keepBut.refl [] w2).drewN nq
  generalize w2.drewN nq = w3 at k9 ⊢
  have H3 := Lib.hid (And.intro (H2.out.1.then k9 (by simp)) (And.intro (H2.out.2.1.over k9) (And.intro (k9.row H2.out.2.2.1 (by simp)) (k9.row H2.out.2.2.2 (by simp)))))
  clear k9
  clear yd z0
  go_upto_region 3 with (fail)
  have yk := (H3.out.2.2.1.cell 0).trans HC.out.1
  have yc := (H3.out.2.2.1.cell 82).trans HC.out.2.2.2.2.1
  have z4 := H3.out.2.1.cells.2.2.2.2.1
  have z6 := H3.out.2.1.cells.2.2.2.2.2.2.1
  rw [HC.out.2.2.2.2.2.1] at z6
  go_quiet (fail)
  have k9 : keepBut [] w3 (w3.drewN nq) := (keepBut.refl [] w3).drewN nq
  generalize w3.drewN nq = w4 at k9 ⊢
  have H4 := Lib.hid (And.intro (H3.out.1.then k9 (by simp)) (And.intro (H3.out.2.1.over k9) (And.intro (k9.row H3.out.2.2.1 (by simp)) (k9.row H3.out.2.2.2 (by simp)))))
  clear k9
  clear yk yc z4 z6
  obtain ⟨C, hC⟩ : ∃ C, cfL x.conf xc = C := ⟨_, rfl⟩
  have hCl : C.length = 3 := by rw [← hC]; rfl
  have rX : w4.rangeAt b 82 C := fun j v hv => by
    rw [← hC] at hv
    exact (H4.out.2.2.1.cell (82 + j)).trans (HC.out.2.2.2.2.2.2.2 j v (by rw [List.getElem?_append_left (List.getElem?_eq_some_iff.1 hv).1]; exact hv))
  have HD := Lib.hid (copyConfD_any G x.conf xc w4 (HX.out.1.cc.keep H4.out.1 (by simp)) HL.out)
  rw [hC] at HD
  have HCC := Lib.hid (And.intro hC (And.intro hCl rX))
  clear hC hCl rX
  go_upto_region 5 with (first
    | (refine wpList_load_mid rfl 41 (.tmp 39) rfl b 82 rfl C _ HCC.out.2.2 Tryd.underlying41 rfl (by rw [HCC.out.2.1]; exact info_cf) ?_)
    | (go_at_call 33; (with_reducible refine HD.out.mono ?_); rintro e w5 ⟨cv', rfl, G', hv', hG', k5⟩; obtain ⟨Y, hY⟩ : ∃ Y, cfL x.conf cv' = Y := ⟨_, rfl⟩; have HY := Lib.hid (And.intro hY (And.intro (show Y.length = 3 by rw [← hY]; rfl) (show ∀ u ∈ Y, u.oneCell' = true by rw [← hY]; exact cfL_one _ hv'.one))); have h5 := H4.out.2.1.over k5; have HT5 := Lib.hid (h5.row.there (o := 4) (n := 3) (by rw [List.size_toArray, msL_len _ h5.nm]; decide)); have H5 := Lib.hid (And.intro hv' (And.intro hG' (And.intro k5 h5))); rw [hY]; clear hv' hG' k5 h5 hY)
    | (refine wpList_store_mid rfl 41 (.tmp 43) (.tmp 41) rfl p 4 Y.toArray rfl rfl (by rw [List.size_toArray, HY.out.2.1]; exact HT5.out) (by rw [List.size_toArray, HY.out.2.1]; exact info_cf) (by simpa using HY.out.2.2) ?_))
  have hG5 : ∀ y ∈ G', y < w5.heap.size ∧ y ≠ p := fun y hy => by
    have h1 := H5.out.2.1 y hy
    have h2 := H4.out.2.1.row.lt
    omega
  have a6 := H5.out.2.2.2.conf (c := x.conf) H5.out.1 hG5
  rw [HY.out.1] at a6
  generalize w5.setCells p 4 Y = w6 at a6 ⊢
  have g45 := a6.1.row.free 45
  have z45 := a6.1.cells.2.2.2.2.2.2.2.2.1
  have a7 := a6.1.sent false
  have K47 := ((H5.out.2.2.1.more (T := [p]) (by simp)).then a6.2 (fun x hx => .inl hx)).then a7.2 (fun x hx => .inl hx)
  have H7 := Lib.hid (And.intro ((H4.out.1.more (T := [p]) (by simp)).then K47 (fun x hx => .inl hx)) (And.intro a7.1 (And.intro (K47.row H4.out.2.2.1 (by have := HZ.out.2.2.2; have := HS.out; simp only [List.mem_singleton]; omega)) (K47.row H4.out.2.2.2 (by have := HZ.out.2.2.2; have := HS.out; simp only [List.mem_singleton]; omega)))))
  clear a6 a7 K47 hG5
  go_upto_region 6 with (fail)
  generalize w6.setCell ⟨p, 45, none⟩ (.bool false) = w7 at H7 ⊢
  clear z45 g45
  have yk := (H7.out.2.2.1.cell 0).trans HC.out.1
  have ya := (H7.out.2.2.1.cell 44).trans HC.out.2.2.1
  have ym := (H7.out.2.2.1.cell 45).trans HC.out.2.2.2.1
  have z0 := H7.out.2.1.cells.1
  have z44 := H7.out.2.1.cells.2.2.2.2.2.2.2.1
  have z48 := H7.out.2.1.cells.2.2.2.2.2.2.2.2.2.2.2
  go_quiet (fail)
  have k9 : keepBut [] w7 (w7.drewN nq) := (keepBut.refl [] w7).drewN nq
  generalize w7.drewN nq = w8 at k9 ⊢
  have H8 := Lib.hid (And.intro (H7.out.1.then k9 (by simp)) (And.intro (H7.out.2.1.over k9) (And.intro (k9.row H7.out.2.2.1 (by simp)) (k9.row H7.out.2.2.2 (by simp)))))
  clear k9
  clear yk ya ym z0 z44 z48
  have HT := Lib.hid (H8.out.2.2.2.there (o := 0) (n := 38) (by rw [List.size_toArray, HZ.out.2.1]; decide))
  go_wp2_with (first
    | (refine wpList_store_mid rfl 39 (.tmp 4) (.tmp 82) rfl d 0 Z.toArray rfl HZE.out (by rw [List.size_toArray, HZ.out.2.1]; exact HT.out) (by rw [List.size_toArray, HZ.out.2.1]; exact info_anS) (by simpa using HZ.out.2.2.1) ?_))
  have r9 := set0 (H8.out.2.2.2) (rfl : Z.length = Z.length)
  refine bodyPost_ret (results_row_tmp rfl _ _ d 39 _ (0, 0) _ rfl r9 Tryd.underlying39 rfl (by rw [List.size_toArray, HZ.out.2.1]; exact info_anS)) rfl ?_
  have k5 : keepBut [d] w8 (w8.setCells d 0 Z) := (keepBut.refl _ _).setL (.inl (by simp))
  refine ⟨nilV, [], _, G', by rw [HZ.out.1]; rfl, anZero_val _ _, by simp [newIn], H8.out.2.1.keep k5 ?_ (fun y hy hm => ?_), fun y hy => by have h1 := (H5.out.2.1 y hy).1; have h2 := H4.out.1.size; have h3 := (H8.out.2.1.far y (by simp [hy])).1; have h4 := k5.size; omega, (show keepBut [p] w w8 from H8.out.1).then k5 (fun y hy => .inr ?_)⟩
  · have := HZ.out.2.2.2; have := HS.out; simp only [List.mem_singleton]; omega
  · simp only [List.mem_singleton] at hm
    rcases List.mem_append.1 hy with hy | hy
    · have h1 := (HX.out.2.2.1.far y hy).1
      have := HS.out
      omega
    · have h1 := (H5.out.2.1 y hy).1
      have h2 := H4.out.2.2.2.lt
      omega
  · simp only [List.mem_singleton] at hy; have := HS.out; omega
set_option maxHeartbeats 4000000 in
theorem takeM_conf2 (hb : 0 ≤ s.client ∧ s.client ≤ 2) (G : List Nat) (hx : pkV w G x xe xa xc xv xb) (hc : x.dst = 20 + s.client) (h7 : x.kind = 7) (hl : x.conf.chain.length ≤ 1000000) (hn2 : ¬ s.conf.num < x.conf.num) (he : s.conf.chain = []) :
    Calls Tryd.prog 35 #[.pointer (some ⟨p, 0, none⟩), .agg (pkL x xe xa xc xv xb).toArray] w (takeMPost p ((anZero, false), (s.setConf x.conf).setSent false) ev F w) := by
  have hXl := pkL_len (p := x) (ev := xe) (av := xa) (cv := xc) (vv := xv) (bw := xb) hx.rn hx.an
  have c0 : (pkL x xe xa xc xv xb).toArray[0]? = some (.int .i64 x.kind) := rfl
  have c2 : (pkL x xe xa xc xv xb).toArray[2]? = some (.int .i64 x.dst) := rfl
  have c44 : (pkL x xe xa xc xv xb).toArray[44]? = some (.int .i64 x.ans.client) := pkL_ans hx.rn 0 _ rfl
  have c45 : (pkL x xe xa xc xv xb).toArray[45]? = some (.int .i64 x.ans.num) := pkL_ans hx.rn 1 _ rfl
  have c82 : (pkL x xe xa xc xv xb).toArray[82]? = some (.int .i64 x.conf.num) := pkL_tail hx.rn hx.an 0 _ rfl
  have qA : ∀ j v, (anL x.ans xa)[j]? = some v → (pkL x xe xa xc xv xb).toArray[44 + j]? = some v := pkL_ans hx.rn
  have qC : ∀ j v, (cfL x.conf xc ++ [xv, xb])[j]? = some v → (pkL x xe xa xc xv xb).toArray[82 + j]? = some v := pkL_tail hx.rn hx.an
  obtain ⟨X, hX⟩ : ∃ X, pkL x xe xa xc xv xb = X := ⟨_, rfl⟩
  rw [hX] at hXl c0 c2 c44 c45 c82 qA qC ⊢
  obtain ⟨Z, hZ⟩ : ∃ Z, anL anZero nilV = Z := ⟨_, rfl⟩
  have hzv := zv_an
  have hzl := anZ_len
  have hz1 := anZ_one
  rw [hZ] at hzv hzl hz1
  obtain ⟨A, cc, g, rfl, _, h3, _⟩ := h.chain
  obtain ⟨n, hn⟩ : ∃ n, s.conf.chain.length = n := ⟨_, rfl⟩
  have hnm : n ≤ 9223372036854775807 := by unfold maxLen at h3; omega
  have k1 := (keepBut.refl [] w).alloc (.cells X.toArray 44)
  have r1 := rowAt.new w 44 X.toArray
  have hs1 : (w.alloc (.cells X.toArray 44)).heap.size = w.heap.size + 1 := World.size_alloc ..
  obtain ⟨w1, hw1⟩ : ∃ w1, w.alloc (.cells X.toArray 44) = w1 := ⟨_, rfl⟩
  rw [hw1] at k1 r1 hs1
  have k2 := (keepBut.refl [] w1).alloc (.cells Z.toArray 39)
  have r2 := rowAt.new w1 39 Z.toArray
  obtain ⟨w2, hw2⟩ : ∃ w2, w1.alloc (.cells Z.toArray 39) = w2 := ⟨_, rfl⟩
  rw [hw2] at k2 r2
  have r1' := k2.row r1 (by simp)
  have k12 := k1.then k2 (by simp)
  obtain ⟨b, hbb⟩ : ∃ b, w.heap.size = b := ⟨_, rfl⟩
  obtain ⟨d, hd⟩ : ∃ d, w1.heap.size = d := ⟨_, rfl⟩
  have HS := Lib.hid (And.intro hbb (And.intro hd hs1))
  have hpw := h.row.lt
  rw [hbb] at r1'
  rw [hd] at r2
  have HC := Lib.hid (And.intro c0 (And.intro c2 (And.intro c44 (And.intro c45 (And.intro c82 (And.intro hn (And.intro qA qC)))))))
  have HZ := Lib.hid (And.intro hZ (And.intro hzl (And.intro hz1 hpw)))
  have HW := Lib.hid (And.intro hw1 (And.intro hw2 hzv))
  have HZE := Lib.hid (congrArg Value.agg (anZero_cells.symm.trans (congrArg List.toArray hZ)))
  have H2 := Lib.hid (And.intro k12 (And.intro (h.over k12) (And.intro r1' r2)))
  have HX := Lib.hid (And.intro hx (And.intro hb (And.intro h hXl)))
  obtain ⟨hb1, hb2⟩ := hb
  have hne : (x.dst != 20 + s.client) = false := by simp [hc]
  have e7 : (x.kind == 7) = true := by simp [h7]
  have e2 : (x.kind == 2) = false := by simp [h7]
  have hdd : decide (s.conf.num < x.conf.num) = false := by simp only [decide_eq_false_iff_not]; exact hn2
  have hne2 : ((n : Int) == 0) = true := by rw [← hn, he]; rfl
  have HL := Lib.hid hl
  clear h k1 r1 k2 r2 k12 hw1 hw2 hzv hzl hz1 hs1 hX hpw r1' hZ hXl hx c0 c2 c44 c45 c82 hn qA qC h3 hc h7 hl hn2 he
  have yd := (H2.out.2.2.1.cell 2).trans HC.out.2.1
  have z0 := H2.out.2.1.cells.1
  go_enter Tryd.func35, Tryd.ntmps35
  go_upto_region 1 with (first
    | (with_reducible refine wpList_box_to _ _ rfl 44 (.tmp 1) rfl _ rfl HW.out.1 ?_)
    | (with_reducible refine wpList_alloc_to _ _ rfl 39 rfl _ HW.out.2.2 HW.out.2.1 ?_))
  try simp only [hbb, hd]
  go_quiet (fail)
  have k9 : keepBut [] w2 (w2.drewN nq) := (keepBut.refl [] w2).drewN nq
  generalize w2.drewN nq = w3 at k9 ⊢
  have H3 := Lib.hid (And.intro (H2.out.1.then k9 (by simp)) (And.intro (H2.out.2.1.over k9) (And.intro (k9.row H2.out.2.2.1 (by simp)) (k9.row H2.out.2.2.2 (by simp)))))
  clear k9
  clear yd z0
  go_upto_region 3 with (fail)
  have yk := (H3.out.2.2.1.cell 0).trans HC.out.1
  have yc := (H3.out.2.2.1.cell 82).trans HC.out.2.2.2.2.1
  have z4 := H3.out.2.1.cells.2.2.2.2.1
  have z6 := H3.out.2.1.cells.2.2.2.2.2.2.1
  rw [HC.out.2.2.2.2.2.1] at z6
  go_quiet (fail)
  have k9 : keepBut [] w3 (w3.drewN nq) := (keepBut.refl [] w3).drewN nq
  generalize w3.drewN nq = w4 at k9 ⊢
  have H4 := Lib.hid (And.intro (H3.out.1.then k9 (by simp)) (And.intro (H3.out.2.1.over k9) (And.intro (k9.row H3.out.2.2.1 (by simp)) (k9.row H3.out.2.2.2 (by simp)))))
  clear k9
  clear yk yc z4 z6
  obtain ⟨C, hC⟩ : ∃ C, cfL x.conf xc = C := ⟨_, rfl⟩
  have hCl : C.length = 3 := by rw [← hC]; rfl
  have rX : w4.rangeAt b 82 C := fun j v hv => by
    rw [← hC] at hv
    exact (H4.out.2.2.1.cell (82 + j)).trans (HC.out.2.2.2.2.2.2.2 j v (by rw [List.getElem?_append_left (List.getElem?_eq_some_iff.1 hv).1]; exact hv))
  have HD := Lib.hid (copyConfD_any G x.conf xc w4 (HX.out.1.cc.keep H4.out.1 (by simp)) HL.out)
  rw [hC] at HD
  have HCC := Lib.hid (And.intro hC (And.intro hCl rX))
  clear hC hCl rX
  go_upto_region 5 with (first
    | (refine wpList_load_mid rfl 41 (.tmp 39) rfl b 82 rfl C _ HCC.out.2.2 Tryd.underlying41 rfl (by rw [HCC.out.2.1]; exact info_cf) ?_)
    | (go_at_call 33; (with_reducible refine HD.out.mono ?_); rintro e w5 ⟨cv', rfl, G', hv', hG', k5⟩; obtain ⟨Y, hY⟩ : ∃ Y, cfL x.conf cv' = Y := ⟨_, rfl⟩; have HY := Lib.hid (And.intro hY (And.intro (show Y.length = 3 by rw [← hY]; rfl) (show ∀ u ∈ Y, u.oneCell' = true by rw [← hY]; exact cfL_one _ hv'.one))); have h5 := H4.out.2.1.over k5; have HT5 := Lib.hid (h5.row.there (o := 4) (n := 3) (by rw [List.size_toArray, msL_len _ h5.nm]; decide)); have H5 := Lib.hid (And.intro hv' (And.intro hG' (And.intro k5 h5))); rw [hY]; clear hv' hG' k5 h5 hY)
    | (refine wpList_store_mid rfl 41 (.tmp 43) (.tmp 41) rfl p 4 Y.toArray rfl rfl (by rw [List.size_toArray, HY.out.2.1]; exact HT5.out) (by rw [List.size_toArray, HY.out.2.1]; exact info_cf) (by simpa using HY.out.2.2) ?_))
  have hG5 : ∀ y ∈ G', y < w5.heap.size ∧ y ≠ p := fun y hy => by
    have h1 := H5.out.2.1 y hy
    have h2 := H4.out.2.1.row.lt
    omega
  have a6 := H5.out.2.2.2.conf (c := x.conf) H5.out.1 hG5
  rw [HY.out.1] at a6
  generalize w5.setCells p 4 Y = w6 at a6 ⊢
  have g45 := a6.1.row.free 45
  have z45 := a6.1.cells.2.2.2.2.2.2.2.2.1
  have a7 := a6.1.sent false
  have K47 := ((H5.out.2.2.1.more (T := [p]) (by simp)).then a6.2 (fun x hx => .inl hx)).then a7.2 (fun x hx => .inl hx)
  have H7 := Lib.hid (And.intro ((H4.out.1.more (T := [p]) (by simp)).then K47 (fun x hx => .inl hx)) (And.intro a7.1 (And.intro (K47.row H4.out.2.2.1 (by have := HZ.out.2.2.2; have := HS.out; simp only [List.mem_singleton]; omega)) (K47.row H4.out.2.2.2 (by have := HZ.out.2.2.2; have := HS.out; simp only [List.mem_singleton]; omega)))))
  clear a6 a7 K47 hG5
  go_upto_region 6 with (fail)
  generalize w6.setCell ⟨p, 45, none⟩ (.bool false) = w7 at H7 ⊢
  clear z45 g45
  have yk := (H7.out.2.2.1.cell 0).trans HC.out.1
  have ya := (H7.out.2.2.1.cell 44).trans HC.out.2.2.1
  have ym := (H7.out.2.2.1.cell 45).trans HC.out.2.2.2.1
  have z0 := H7.out.2.1.cells.1
  have z44 := H7.out.2.1.cells.2.2.2.2.2.2.2.1
  have z48 := H7.out.2.1.cells.2.2.2.2.2.2.2.2.2.2.2
  go_quiet (fail)
  have k9 : keepBut [] w7 (w7.drewN nq) := (keepBut.refl [] w7).drewN nq
  generalize w7.drewN nq = w8 at k9 ⊢
  have H8 := Lib.hid (And.intro (H7.out.1.then k9 (by simp)) (And.intro (H7.out.2.1.over k9) (And.intro (k9.row H7.out.2.2.1 (by simp)) (k9.row H7.out.2.2.2 (by simp)))))
  clear k9
  clear yk ya ym z0 z44 z48
  have HT := Lib.hid (H8.out.2.2.2.there (o := 0) (n := 38) (by rw [List.size_toArray, HZ.out.2.1]; decide))
  go_wp2_with (first
    | (refine wpList_store_mid rfl 39 (.tmp 4) (.tmp 82) rfl d 0 Z.toArray rfl HZE.out (by rw [List.size_toArray, HZ.out.2.1]; exact HT.out) (by rw [List.size_toArray, HZ.out.2.1]; exact info_anS) (by simpa using HZ.out.2.2.1) ?_))
  have r9 := set0 (H8.out.2.2.2) (rfl : Z.length = Z.length)
  refine bodyPost_ret (results_row_tmp rfl _ _ d 39 _ (0, 0) _ rfl r9 Tryd.underlying39 rfl (by rw [List.size_toArray, HZ.out.2.1]; exact info_anS)) rfl ?_
  have k5 : keepBut [d] w8 (w8.setCells d 0 Z) := (keepBut.refl _ _).setL (.inl (by simp))
  refine ⟨nilV, [], _, G', by rw [HZ.out.1]; rfl, anZero_val _ _, by simp [newIn], H8.out.2.1.keep k5 ?_ (fun y hy hm => ?_), fun y hy => by have h1 := (H5.out.2.1 y hy).1; have h2 := H4.out.1.size; have h3 := (H8.out.2.1.far y (by simp [hy])).1; have h4 := k5.size; omega, (show keepBut [p] w w8 from H8.out.1).then k5 (fun y hy => .inr ?_)⟩
  · have := HZ.out.2.2.2; have := HS.out; simp only [List.mem_singleton]; omega
  · simp only [List.mem_singleton] at hm
    rcases List.mem_append.1 hy with hy | hy
    · have h1 := (HX.out.2.2.1.far y hy).1
      have := HS.out
      omega
    · have h1 := (H5.out.2.1 y hy).1
      have h2 := H4.out.2.2.2.lt
      omega
  · simp only [List.mem_singleton] at hy; have := HS.out; omega
set_option maxHeartbeats 4000000 in
theorem takeM_yes (hb : 0 ≤ s.client ∧ s.client ≤ 2) (G : List Nat) (hx : pkV w G x xe xa xc xv xb) (hGp : ∀ y ∈ G, y ≠ p) (hc : x.dst = 20 + s.client) (hk2 : x.kind = 2) (hw : s.waits = true) (ha : x.ans.client = s.client) (hm : x.ans.num = s.last) (hl : x.ans.env.length ≤ 1000000) :
    Calls Tryd.prog 35 #[.pointer (some ⟨p, 0, none⟩), .agg (pkL x xe xa xc xv xb).toArray] w (takeMPost p ((x.ans, true), s.setWaits false) ev F w) := by
  have hXl := pkL_len (p := x) (ev := xe) (av := xa) (cv := xc) (vv := xv) (bw := xb) hx.rn hx.an
  have c0 : (pkL x xe xa xc xv xb).toArray[0]? = some (.int .i64 x.kind) := rfl
  have c2 : (pkL x xe xa xc xv xb).toArray[2]? = some (.int .i64 x.dst) := rfl
  have c44 : (pkL x xe xa xc xv xb).toArray[44]? = some (.int .i64 x.ans.client) := pkL_ans hx.rn 0 _ rfl
  have c45 : (pkL x xe xa xc xv xb).toArray[45]? = some (.int .i64 x.ans.num) := pkL_ans hx.rn 1 _ rfl
  have c82 : (pkL x xe xa xc xv xb).toArray[82]? = some (.int .i64 x.conf.num) := pkL_tail hx.rn hx.an 0 _ rfl
  have qA : ∀ j v, (anL x.ans xa)[j]? = some v → (pkL x xe xa xc xv xb).toArray[44 + j]? = some v := pkL_ans hx.rn
  have qC : ∀ j v, (cfL x.conf xc ++ [xv, xb])[j]? = some v → (pkL x xe xa xc xv xb).toArray[82 + j]? = some v := pkL_tail hx.rn hx.an
  obtain ⟨X, hX⟩ : ∃ X, pkL x xe xa xc xv xb = X := ⟨_, rfl⟩
  rw [hX] at hXl c0 c2 c44 c45 c82 qA qC ⊢
  obtain ⟨Z, hZ⟩ : ∃ Z, anL anZero nilV = Z := ⟨_, rfl⟩
  have hzv := zv_an
  have hzl := anZ_len
  have hz1 := anZ_one
  rw [hZ] at hzv hzl hz1
  obtain ⟨A, cc, g, rfl, _, h3, _⟩ := h.chain
  obtain ⟨n, hn⟩ : ∃ n, s.conf.chain.length = n := ⟨_, rfl⟩
  have hnm : n ≤ 9223372036854775807 := by unfold maxLen at h3; omega
  have k1 := (keepBut.refl [] w).alloc (.cells X.toArray 44)
  have r1 := rowAt.new w 44 X.toArray
  have hs1 : (w.alloc (.cells X.toArray 44)).heap.size = w.heap.size + 1 := World.size_alloc ..
  obtain ⟨w1, hw1⟩ : ∃ w1, w.alloc (.cells X.toArray 44) = w1 := ⟨_, rfl⟩
  rw [hw1] at k1 r1 hs1
  have k2 := (keepBut.refl [] w1).alloc (.cells Z.toArray 39)
  have r2 := rowAt.new w1 39 Z.toArray
  obtain ⟨w2, hw2⟩ : ∃ w2, w1.alloc (.cells Z.toArray 39) = w2 := ⟨_, rfl⟩
  rw [hw2] at k2 r2
  have r1' := k2.row r1 (by simp)
  have k12 := k1.then k2 (by simp)
  obtain ⟨b, hbb⟩ : ∃ b, w.heap.size = b := ⟨_, rfl⟩
  obtain ⟨d, hd⟩ : ∃ d, w1.heap.size = d := ⟨_, rfl⟩
  have HS := Lib.hid (And.intro hbb (And.intro hd hs1))
  have hpw := h.row.lt
  rw [hbb] at r1'
  rw [hd] at r2
  have HC := Lib.hid (And.intro c0 (And.intro c2 (And.intro c44 (And.intro c45 (And.intro c82 (And.intro hn (And.intro qA qC)))))))
  have HZ := Lib.hid (And.intro hZ (And.intro hzl (And.intro hz1 hpw)))
  have HW := Lib.hid (And.intro hw1 (And.intro hw2 hzv))
  have HZE := Lib.hid (congrArg Value.agg (anZero_cells.symm.trans (congrArg List.toArray hZ)))
  have H2 := Lib.hid (And.intro k12 (And.intro (h.over k12) (And.intro r1' r2)))
  have HX := Lib.hid (And.intro hx (And.intro hb (And.intro h hXl)))
  obtain ⟨hb1, hb2⟩ := hb
  have hne : (x.dst != 20 + s.client) = false := by simp [hc]
  have e7 : (x.kind == 7) = false := by simp [hk2]
  have e2 : (x.kind == 2) = true := by simp [hk2]
  have ea : (x.ans.client == s.client) = true := by simp [ha]
  have em : (x.ans.num == s.last) = true := by simp [hm]
  have HWT := Lib.hid hw
  have HL := Lib.hid hl
  have HGP := Lib.hid hGp
  clear h k1 r1 k2 r2 k12 hw1 hw2 hzv hzl hz1 hs1 hX hpw r1' hZ hXl hx c0 c2 c44 c45 c82 hn qA qC h3 hc hk2 hw ha hm hl hGp
  have yd := (H2.out.2.2.1.cell 2).trans HC.out.2.1
  have z0 := H2.out.2.1.cells.1
  go_enter Tryd.func35, Tryd.ntmps35
  go_upto_region 1 with (first
    | (with_reducible refine wpList_box_to _ _ rfl 44 (.tmp 1) rfl _ rfl HW.out.1 ?_)
    | (with_reducible refine wpList_alloc_to _ _ rfl 39 rfl _ HW.out.2.2 HW.out.2.1 ?_))
  try simp only [hbb, hd]
  go_quiet (fail)
  have k9 : keepBut [] w2 (w2.drewN nq) := (keepBut.refl [] w2).drewN nq
  generalize w2.drewN nq = w3 at k9 ⊢
  have H3 := Lib.hid (And.intro (H2.out.1.then k9 (by simp)) (And.intro (H2.out.2.1.over k9) (And.intro (k9.row H2.out.2.2.1 (by simp)) (k9.row H2.out.2.2.2 (by simp)))))
  clear k9
  clear yd z0
  go_upto_region 3 with (fail)
  have yk := (H3.out.2.2.1.cell 0).trans HC.out.1
  have yc := (H3.out.2.2.1.cell 82).trans HC.out.2.2.2.2.1
  have z4 := H3.out.2.1.cells.2.2.2.2.1
  have z6 := H3.out.2.1.cells.2.2.2.2.2.2.1
  rw [HC.out.2.2.2.2.2.1] at z6
  go_quiet (fail)
  have k9 : keepBut [] w3 (w3.drewN nq) := (keepBut.refl [] w3).drewN nq
  generalize w3.drewN nq = w4 at k9 ⊢
  have H4 := Lib.hid (And.intro (H3.out.1.then k9 (by simp)) (And.intro (H3.out.2.1.over k9) (And.intro (k9.row H3.out.2.2.1 (by simp)) (k9.row H3.out.2.2.2 (by simp)))))
  clear k9
  clear yk yc z4 z6
  go_upto_region 6 with (fail)
  have yk := (H4.out.2.2.1.cell 0).trans HC.out.1
  have ya := (H4.out.2.2.1.cell 44).trans HC.out.2.2.1
  have ym := (H4.out.2.2.1.cell 45).trans HC.out.2.2.2.1
  have z0 := H4.out.2.1.cells.1
  have z44 := H4.out.2.1.cells.2.2.2.2.2.2.2.1
  have z48 := H4.out.2.1.cells.2.2.2.2.2.2.2.2.2.2.2
  rw [HWT.out] at z44
  go_quiet (fail)
  have k9 : keepBut [] w4 (w4.drewN nq) := (keepBut.refl [] w4).drewN nq
  generalize w4.drewN nq = w5 at k9 ⊢
  have H5 := Lib.hid (And.intro (H4.out.1.then k9 (by simp)) (And.intro (H4.out.2.1.over k9) (And.intro (k9.row H4.out.2.2.1 (by simp)) (k9.row H4.out.2.2.2 (by simp)))))
  clear k9
  clear yk ya ym z0 z44 z48
  have z44 := H5.out.2.1.cells.2.2.2.2.2.2.2.1
  have g44 := H5.out.2.1.row.free 44
  have a6 := H5.out.2.1.waits false
  have k6 := a6.2
  have H6 := Lib.hid (And.intro ((H5.out.1.more (T := [p]) (by simp)).then k6 (fun x hx => .inl hx)) (And.intro a6.1 (And.intro (k6.row H5.out.2.2.1 (by have := HZ.out.2.2.2; have := HS.out; simp only [List.mem_singleton]; omega)) (k6.row H5.out.2.2.2 (by have := HZ.out.2.2.2; have := HS.out; simp only [List.mem_singleton]; omega)))))
  have HAE := Lib.hid (show anV (w5.setCell ⟨p, 44, none⟩ (.bool false)) G x.ans xa from ⟨HX.out.1.an, (HX.out.1.ae.keep H5.out.1 (by simp)).keep k6 (fun y hy hm => HGP.out y hy (by simpa using hm))⟩)
  clear a6 k6
  go_upto_region 8 with (fail)
  generalize w5.setCell ⟨p, 44, none⟩ (.bool false) = w6 at H6 HAE ⊢
  clear z44 g44
  obtain ⟨C, hC⟩ : ∃ C, anL x.ans xa = C := ⟨_, rfl⟩
  have hCl : C.length = 38 := by rw [← hC]; exact anL_len HX.out.1.an
  have rX : w6.rangeAt b 44 C := fun j v hv => by
    rw [← hC] at hv
    exact (H6.out.2.2.1.cell (44 + j)).trans (HC.out.2.2.2.2.2.2.1 j v hv)
  have HD := Lib.hid (copyAnsD_any G x.ans xa w6 HAE.out HL.out)
  rw [hC] at HD
  have HCC := Lib.hid (And.intro hC (And.intro hCl rX))
  clear hC hCl rX
  go_wp2_with (first
    | (refine wpList_load_mid rfl 39 (.tmp 79) rfl b 44 rfl C _ HCC.out.2.2 Tryd.underlying39 rfl (by rw [HCC.out.2.1]; exact info_anS) ?_)
    | (go_at_call 34; (with_reducible refine HD.out.mono ?_); rintro e w7 ⟨av', rfl, G', hv', hG', k7⟩; obtain ⟨Y, hY⟩ : ∃ Y, anL x.ans av' = Y := ⟨_, rfl⟩; have HY := Lib.hid (And.intro hY (And.intro (show Y.length = 38 by rw [← hY]; exact anL_len hv'.1) (show ∀ u ∈ Y, u.oneCell' = true by rw [← hY]; exact anL_one _ hv'.2.one))); have r7 := k7.row H6.out.2.2.2 (by simp); have HT := Lib.hid (r7.there (o := 0) (n := 38) (by rw [List.size_toArray, HZ.out.2.1]; decide)); have H7 := Lib.hid (And.intro hv' (And.intro hG' (And.intro k7 (And.intro (H6.out.2.1.over k7) r7)))); rw [hY]; clear hv' hG' k7 r7 hY)
    | (refine wpList_store_mid rfl 39 (.tmp 4) (.tmp 81) rfl d 0 Y.toArray rfl rfl (by rw [List.size_toArray, HY.out.2.1]; exact HT.out) (by rw [List.size_toArray, HY.out.2.1]; exact info_anS) (by simpa using HY.out.2.2) ?_))
  have r9 := set0 H7.out.2.2.2.2 (show Y.length = Z.length by rw [HY.out.2.1, HZ.out.2.1])
  refine bodyPost_ret (results_row_tmp rfl _ _ d 39 _ (0, 0) _ rfl r9 Tryd.underlying39 rfl (by rw [List.size_toArray, HY.out.2.1]; exact info_anS)) rfl ?_
  have k5 : keepBut [d] w7 (w7.setCells d 0 Y) := (keepBut.refl _ _).setL (.inl (by simp))
  refine ⟨av', G', _, [], by rw [HY.out.1]; rfl, ⟨H7.out.1.1, H7.out.1.2.keep k5 (fun y hy hm => ?_)⟩, fun y hy => ⟨?_, ?_⟩, (show isM w7 p _ _ ev (F ++ []) by rw [List.append_nil]; exact H7.out.2.2.2.1).keep k5 ?_ (fun y hy hm => ?_), by simp [newIn], ((H6.out.1).then H7.out.2.2.1 (by simp)).then k5 (fun y hy => .inr ?_)⟩
  · have h1 := (H7.out.2.1 y hy).1
    have h2 := H6.out.2.2.2.lt
    simp only [List.mem_singleton] at hm
    omega
  · have h1 := (H7.out.2.1 y hy).1
    have h2 := H6.out.1.size
    omega
  · have h1 := (H7.out.2.1 y hy).2
    have h2 := k5.size
    omega
  · have := HZ.out.2.2.2; have := HS.out; simp only [List.mem_singleton]; omega
  · simp only [List.mem_singleton] at hm
    have h1 := (HX.out.2.2.1.far y (by simp only [List.append_nil] at hy; simp [hy])).1
    have := HS.out
    omega
  · simp only [List.mem_singleton] at hy; have := HS.out; omega
theorem takeM_any (hb : 0 ≤ s.client ∧ s.client ≤ 2) (G : List Nat) (hx : pkV w G x xe xa xc xv xb) (hGp : ∀ y ∈ G, y ≠ p) (hl : x.ans.env.length ≤ 1000000) (hl2 : x.conf.chain.length ≤ 1000000) :
    Calls Tryd.prog 35 #[.pointer (some ⟨p, 0, none⟩), .agg (pkL x xe xa xc xv xb).toArray] w (takeMPost p (s.takeP x) ev F w) := by
  unfold SS.takeP
  by_cases hc : x.dst = 20 + s.client
  · rw [if_pos hc]
    by_cases h7 : x.kind = 7
    · rw [if_pos h7]
      unfold SS.learn
      by_cases hn : s.conf.num < x.conf.num
      · rw [if_pos (.inl hn)]; exact takeM_conf1 p s cv ev F x xe xa xc xv xb w h hb G hx hc h7 hl2 hn
      · by_cases he : s.conf.chain = []
        · rw [if_pos (.inr he)]; exact takeM_conf2 p s cv ev F x xe xa xc xv xb w h hb G hx hc h7 hl2 hn he
        · rw [if_neg (by simp [hn, he])]; exact takeM_old p s cv ev F x xe xa xc xv xb w h hb G hx hc h7 (by simp [hn, he])
    · rw [if_neg h7]
      by_cases hk2 : x.kind = 2
      · rw [if_pos hk2]
        unfold SS.ansP SS.fits
        cases hw : s.waits with
        | false => rw [if_neg (by simp)]; exact takeM_idle p s cv ev F x xe xa xc xv xb w h hb G hx hc hk2 hw
        | true =>
          by_cases ha : x.ans.client = s.client
          · by_cases hm : x.ans.num = s.last
            · rw [if_pos (by simp [ha, hm])]; exact takeM_yes p s cv ev F x xe xa xc xv xb w h hb G hx hGp hc hk2 hw ha hm hl
            · rw [if_neg (by simp [hm])]; exact takeM_stale p s cv ev F x xe xa xc xv xb w h hb G hx hc hk2 hw ha hm
          · rw [if_neg (by simp [ha])]; exact takeM_alien p s cv ev F x xe xa xc xv xb w h hb G hx hc hk2 hw ha
      · rw [if_neg hk2]; exact takeM_other p s cv ev F x xe xa xc xv xb w h hb G hx hc h7 hk2
  · rw [if_neg hc]; exact takeM_far p s cv ev F x xe xa xc xv xb w h hb G hx hc
end
end Go.Proofs.YtkpmlcgbffdloaaDoor
end
