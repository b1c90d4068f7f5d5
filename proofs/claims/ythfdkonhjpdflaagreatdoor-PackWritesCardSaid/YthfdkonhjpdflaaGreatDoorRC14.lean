/-
  RC, 14: the document's Copy.
-/
import Derived.Test.YthfdkonhjpdflaaGreatDoorRC10
import Derived.Test.YthfdkonhjpdflaaGreatDoorRC13
namespace Go.Proofs.YthfdkonhjpdflaaGreatDoor
open Go.RowKit
set_option linter.unusedVariables false
set_option maxRecDepth 100000
set_option linter.unusedSimpArgs false

theorem putL_midR {a m m' r : List Value} {o : Nat} (ho : a.length = o) (h : m'.length = m.length) : putL (a ++ (m ++ r)).toArray o m' = (a ++ (m' ++ r)).toArray := by
  subst ho
  refine Array.ext_getElem? (fun i => ?_)
  rw [putL_get _ _ _ _ (by simp only [List.size_toArray, List.length_append]; omega)]
  by_cases c : a.length ≤ i ∧ i < a.length + m'.length
  · rw [if_pos c, List.getElem?_toArray, List.getElem?_append_right c.1, List.getElem?_append_left (by omega)]
  · rw [if_neg c, List.getElem?_toArray, List.getElem?_toArray]
    by_cases d : i < a.length
    · rw [List.getElem?_append_left d, List.getElem?_append_left d]
    · rw [List.getElem?_append_right (by omega), List.getElem?_append_right (by omega), List.getElem?_append_right (by omega), List.getElem?_append_right (by omega), h]
theorem pkL_putRR {p : PK} {ev av cv vv bw : Value} (h : p.req.name.length = 32) (u : Value) : putL (pkL p ev av cv vv bw).toArray 7 (rqL p.req u) = (pkL p u av cv vv bw).toArray :=
  putL_midR (a := [.int .i64 p.kind, .int .i64 p.frm, .int .i64 p.dst, .int .i64 p.num, .int .i64 p.seq, .int .i64 p.ballot, .bool p.ready]) (m := rqL p.req ev) rfl (by rw [rqL_len h, rqL_len h])
theorem pkL_putAR {p : PK} {ev av cv vv bw : Value} (h : p.req.name.length = 32) (h' : p.ans.name.length = 32) (u : Value) : putL (pkL p ev av cv vv bw).toArray 44 (anL p.ans u) = (pkL p ev u cv vv bw).toArray := by
  have e : ∀ v, pkL p ev v cv vv bw = ([.int .i64 p.kind, .int .i64 p.frm, .int .i64 p.dst, .int .i64 p.num, .int .i64 p.seq, .int .i64 p.ballot, .bool p.ready] ++ rqL p.req ev) ++ (anL p.ans v ++ (cfL p.conf cv ++ [vv, bw])) := fun v => by simp [pkL]
  rw [e, e]
  exact putL_midR (by simp [rqL_len h]) (by rw [anL_len h', anL_len h'])
theorem rqL_setE {r : RQ} {ev : Value} (h : r.name.length = 32) (u : Value) : (rqL r ev).toArray.setIfInBounds 36 u = (rqL r u).toArray := by
  rw [set_mid (l := rqL r ev) (a := [.int .i64 r.client, .int .i64 r.num, .int .i64 r.kind, .int .i64 r.version] ++ nameL r.name) (x := ev) (b := []) (k := 36) (by simp [rqL]) (by simp [nameL_len, h]) u]
  simp [rqL]
theorem anL_setE {r : AN} {ev : Value} (h : r.name.length = 32) (u : Value) : (anL r ev).toArray.setIfInBounds 37 u = (anL r u).toArray := by
  rw [set_mid (l := anL r ev) (a := [.int .i64 r.client, .int .i64 r.num, .int .i64 r.code, .int .i64 r.version, .int .i64 r.epoch] ++ nameL r.name) (x := ev) (b := []) (k := 37) (by simp [anL]) (by simp [nameL_len, h]) u]
  simp [anL]
theorem zv_rqC : (Tryz.prog.info? 26).bind (·.zero) = some (.agg (rqL rqZero nilV).toArray) := by kernel_rfl
theorem zv_anC : (Tryz.prog.info? 28).bind (·.zero) = some (.agg (anL anZero nilV).toArray) := by kernel_rfl
theorem cpAt.put {w a : World} {g : Nat} {p : PK} {ev av cv vv bw ev' av' : Value} (h : cpAt w a g p ev av cv vv bw) (hg : w.heap.size ≤ g) (k : Nat) (l : List Value) (he : putL (pkL p ev av cv vv bw).toArray k l = (pkL p ev' av' cv vv bw).toArray) :
    cpAt w (a.setCells g k l) g p ev' av' cv vv bw :=
  ⟨by rw [← he]; exact h.row.setL, (((keepBut.refl [g] a).setL (.inl (by simp))).row h.res (by simp)), h.kp.setL (.inr hg)⟩
theorem cpB.keepS {S : List Nat} {b : Nat} {W W' : World} {G : List Nat} {v : Value} {l : List UInt8} (h : cpB b W G v l) (hk : keepBut S W W') (hS : ∀ y ∈ G, y ∉ S) : cpB b W' G v l := ⟨h.1.keep hk hS, h.2.keep hk⟩
set_option maxHeartbeats 16000000 in
theorem copyD (F : List Nat) (p : PK) (ev av cv vv bw : Value) (w : World) (h : pkV w F p ev av cv vv bw) (hf : p.fits) :
    Calls Tryz.prog 23 #[.agg (pkL p ev av cv vv bw).toArray] w (copyPost p w) := by
  have k1 := (keepBut.refl [] w).alloc (.cells (pkL p ev av cv vv bw).toArray 34)
  have r1 := rowAt.new w 34 (pkL p ev av cv vv bw).toArray
  have hs1 : (w.alloc (.cells (pkL p ev av cv vv bw).toArray 34)).heap.size = w.heap.size + 1 := World.size_alloc _ _
  obtain ⟨w1, hw1⟩ : ∃ w1, w.alloc (.cells (pkL p ev av cv vv bw).toArray 34) = w1 := ⟨_, rfl⟩
  rw [hw1] at k1 r1 hs1
  have k2 := (keepBut.refl [] w1).alloc (.cells Tryz.zeroCells34 34)
  have r2 := rowAt.new w1 34 Tryz.zeroCells34
  have r1' := k2.row r1 (by simp)
  rw [hs1] at r2
  have k12 := k1.then k2 (by simp)
  have hrn := h.rn
  have han := h.an
  have HW := Lib.hid hw1
  have hv := Lib.hid h
  obtain ⟨A0, c0, g0, rfl, _⟩ := id h.re
  obtain ⟨A1, c1, g1, rfl, _⟩ := id h.ae
  obtain ⟨A2, c2, g2, rfl, _⟩ := id h.cc
  obtain ⟨A3, c3, g3, T3, rfl, _⟩ := id h.vs
  obtain ⟨A4, c4, g4, rfl, _⟩ := id h.bs
  have HN := Lib.hid (And.intro hrn han)
  clear hw1 k1 r1 k2 h
  go_enter Tryz.func23, Tryz.ntmps23
  go_upto_region 1 with (first
    | (with_reducible refine wpList_box_to _ _ rfl 34 (.tmp 0) rfl _ rfl HW.out ?_))
  obtain ⟨w2, hw2⟩ : ∃ w2, w1.alloc (.cells Tryz.zeroCells34 34) = w2 := ⟨_, rfl⟩
  rw [hw2] at r1' r2 k12 ⊢
  have C0 : Hid (cpAt w w2 w.heap.size p _ _ _ _ _) := Lib.hid ⟨r1', r2, k12⟩
  obtain ⟨b, hb⟩ : ∃ b, w.heap.size = b := ⟨_, rfl⟩
  have hbl : w.heap.size ≤ b := by omega
  rw [hb] at C0 ⊢
  have HB := Lib.hid (And.intro hb hbl)
  clear hw2 r1' r2 k12 HW hs1 hb hbl
  -- a part
  obtain ⟨Z0, hZ0⟩ : ∃ Z, rqL rqZero nilV = Z := ⟨_, rfl⟩
  obtain ⟨X0, hX0⟩ : ∃ X, rqL p.req (.slice A0 p.req.env.length c0) = X := ⟨_, rfl⟩
  have HZ0 := Lib.hid (show (Tryz.prog.info? 26).bind (·.zero) = some (.agg Z0.toArray) ∧ X0.length = Z0.length ∧ X0.length = 37 ∧ (∀ u ∈ X0, u.oneCell' = true) by rw [← hZ0, ← hX0]; exact ⟨zv_rqC, by rw [rqL_len hrn, rqL_len rqZero_name], rqL_len hrn, rqL_one _ rfl⟩)
  have HI0 := Lib.hid (show (Tryz.prog.info? 26).map (·.size) = some X0.length by rw [HZ0.out.2.2.1]; exact info_rq)
  have HQ0 := Lib.hid (show w2.rangeAt b 7 X0 by rw [← hX0]; exact (C0.out.row.pk hrn han).rq)
  have hst := storedP (w := w2) (t := 26) HZ0.out.2.1
  have hth := there_newP (w := w2) (t := 26) HZ0.out.2.1
  obtain ⟨q0, hq0⟩ : ∃ q, w2.heap.size = q := ⟨_, rfl⟩
  obtain ⟨wa0, hwa0⟩ : ∃ q, w2.alloc (.cells Z0.toArray 26) = q := ⟨_, rfl⟩
  rw [hwa0, hq0] at hst hth
  have HTH0 := Lib.hid (And.intro hth (And.intro hwa0 hq0))
  obtain ⟨wb0, hwb0⟩ : ∃ q, wa0.setCells q0 0 X0 = q := ⟨_, rfl⟩
  rw [hwb0] at hst
  have HWB0 := Lib.hid hwb0
  have CQ0 := Lib.hid (And.intro hst.1 (And.intro (C0.out.over hst.2) (by have := C0.out.row.lt; have := C0.out.res.lt; exact (⟨by omega, by omega⟩ : q0 ≠ b ∧ q0 ≠ b + 1))))
  have hb0 : b + 1 < q0 := by have := C0.out.res.lt; omega
  have HBQ0 := Lib.hid hb0
  clear hZ0 hst hth hwa0 hwb0 hb0 
  go_upto_region 2 with (first
    | (refine wpList_load_mid rfl 26 (.tmp 5) rfl b 7 rfl X0 _ HQ0.out Tryz.underlying26 rfl HI0.out ?_)
    | (with_reducible refine wpList_alloc_to _ _ rfl 26 rfl _ HZ0.out.1 HTH0.out.2.1 ?_)
    | (simp only [hq0]; refine wpList_store_mid rfl 26 (.tmp 3) (.tmp 6) rfl q0 0 X0.toArray rfl rfl (by rw [List.size_toArray]; exact HTH0.out.1) (by rw [List.size_toArray]; exact HI0.out) (all_oneCell_toArray HZ0.out.2.2.2) ?_))
  rw [HWB0.out]
  have xe : wb0.cell? ⟨q0, 36, none⟩ = some (.slice A0 p.req.env.length c0) := by rw [CQ0.out.1.cell, ← hX0]; exact rqL_env hrn
  go_upto_region 3 with (first
    | (go_at_call 27; refine (copyBytesD F _ p.req.env _ (hv.out.re.keep CQ0.out.2.1.kp (by simp)) hf.e).mono ?_; rintro e wc0 ⟨u0, G0, rfl, ⟨B0, d0, e0, rfl, i0⟩, n0, kk0⟩; have CR0 := Lib.hid (And.intro (kk0.row CQ0.out.1 (by simp)) (CQ0.out.2.1.over kk0)); have ye : wc0.cell? ⟨q0, 36, none⟩ = some (.slice A0 p.req.env.length c0) := (kk0.cell (p := ⟨q0, 36, none⟩) CQ0.out.1.lt (by simp)).trans xe; have fe := CR0.out.1.free 36; have EB0 : Hid (cpB b wc0 G0 (.slice B0 p.req.env.length d0) p.req.env ∧ (∀ y ∈ G0, y ≠ q0)) := Lib.hid ⟨⟨⟨B0, d0, e0, rfl, i0⟩, newB.of n0 CQ0.out.2.1.res.lt⟩, fun y hy => by have := (n0 y hy).1; have := CQ0.out.1.lt; omega⟩; clear i0 n0 kk0 xe))
  have ks := (keepBut.refl [q0] wc0).setCell ⟨q0, 36, none⟩ (.slice B0 p.req.env.length d0) (.inl (by simp))
  have CS0 := Lib.hid (show rowAt (wc0.setCell ⟨q0, 36, none⟩ (.slice B0 p.req.env.length d0)) q0 26 (rqL p.req (.slice B0 p.req.env.length d0)).toArray from (by have hh := CR0.out.1; rw [← hX0] at hh; have h2 := hh.set 36 (.slice B0 p.req.env.length d0); rw [rqL_setE hrn] at h2; exact h2))
  have CT0 := Lib.hid (show cpAt w (wc0.setCell ⟨q0, 36, none⟩ (.slice B0 p.req.env.length d0)) b p _ _ _ _ _ from ⟨ks.row CR0.out.2.row (by have := HBQ0.out; simp; omega), ks.row CR0.out.2.res (by have := HBQ0.out; simp; omega), CR0.out.2.kp.setCell _ _ (.inr (by have := HBQ0.out; have := HB.out.2; show w.heap.size ≤ q0; omega))⟩)
  have EC0 := Lib.hid (EB0.out.1.keepS ks (fun y hy => by have := EB0.out.2 y hy; simpa using this))
  obtain ⟨wd0, hwd0⟩ : ∃ q, wc0.setCell ⟨q0, 36, none⟩ (.slice B0 p.req.env.length d0) = q := ⟨_, rfl⟩
  rw [hwd0] at CS0 CT0 EC0 ⊢
  obtain ⟨Y0, hY0⟩ : ∃ X, rqL p.req (.slice B0 p.req.env.length d0) = X := ⟨_, rfl⟩
  rw [hY0] at CS0
  have HY0 := Lib.hid (show Y0.length = 37 ∧ (∀ u ∈ Y0, u.oneCell' = true) by rw [← hY0]; exact ⟨rqL_len hrn, rqL_one _ rfl⟩)
  have HJ0 := Lib.hid (show (Tryz.prog.info? 26).map (·.size) = some Y0.length by rw [HY0.out.1]; exact info_rq)
  have HTB0 := Lib.hid (CT0.out.row.there (o := 7) (n := Y0.length) (by rw [HY0.out.1, List.size_toArray, pkL_len hrn han]; decide))
  clear hX0 hwd0 ks ye fe CR0 EB0 CQ0 hq0 
  go_upto_region 4 with (first
    | (refine wpList_load_mid rfl 26 (.tmp 3) rfl q0 0 rfl Y0 _ CS0.out.rangeAll Tryz.underlying26 rfl HJ0.out ?_)
    | (refine wpList_store_mid rfl 26 (.tmp 12) (.tmp 11) rfl b 7 Y0.toArray rfl rfl (by rw [List.size_toArray]; exact HTB0.out) (by rw [List.size_toArray]; exact HJ0.out) (all_oneCell_toArray HY0.out.2) ?_))
  have D0 := Lib.hid (CT0.out.put HB.out.2 7 Y0 (by rw [← hY0]; exact pkL_putRR hrn _))
  have kz : keepBut [b] wd0 (wd0.setCells b 7 Y0) := (keepBut.refl [b] wd0).setL (.inl (by simp))
  have E0 := Lib.hid (EC0.out.keep kz)
  obtain ⟨we0, hwe0⟩ : ∃ q, wd0.setCells b 7 Y0 = q := ⟨_, rfl⟩
  rw [hwe0] at D0 E0 ⊢
  clear hY0 kz hwe0 CS0 CT0 EC0 HTB0 
  -- a part
  obtain ⟨Z1, hZ1⟩ : ∃ Z, anL anZero nilV = Z := ⟨_, rfl⟩
  obtain ⟨X1, hX1⟩ : ∃ X, anL p.ans (.slice A1 p.ans.env.length c1) = X := ⟨_, rfl⟩
  have HZ1 := Lib.hid (show (Tryz.prog.info? 28).bind (·.zero) = some (.agg Z1.toArray) ∧ X1.length = Z1.length ∧ X1.length = 38 ∧ (∀ u ∈ X1, u.oneCell' = true) by rw [← hZ1, ← hX1]; exact ⟨zv_anC, by rw [anL_len han, anL_len anZero_name], anL_len han, anL_one _ rfl⟩)
  have HI1 := Lib.hid (show (Tryz.prog.info? 28).map (·.size) = some X1.length by rw [HZ1.out.2.2.1]; exact info_an)
  have HQ1 := Lib.hid (show we0.rangeAt b 44 X1 by rw [← hX1]; exact (D0.out.row.pk hrn han).an)
  have hst := storedP (w := we0) (t := 28) HZ1.out.2.1
  have hth := there_newP (w := we0) (t := 28) HZ1.out.2.1
  obtain ⟨q1, hq1⟩ : ∃ q, we0.heap.size = q := ⟨_, rfl⟩
  obtain ⟨wa1, hwa1⟩ : ∃ q, we0.alloc (.cells Z1.toArray 28) = q := ⟨_, rfl⟩
  rw [hwa1, hq1] at hst hth
  have HTH1 := Lib.hid (And.intro hth (And.intro hwa1 hq1))
  obtain ⟨wb1, hwb1⟩ : ∃ q, wa1.setCells q1 0 X1 = q := ⟨_, rfl⟩
  rw [hwb1] at hst
  have HWB1 := Lib.hid hwb1
  have CQ1 := Lib.hid (And.intro hst.1 (And.intro (D0.out.over hst.2) (by have := D0.out.row.lt; have := D0.out.res.lt; exact (⟨by omega, by omega⟩ : q1 ≠ b ∧ q1 ≠ b + 1))))
  have Ea := Lib.hid (E0.out.over hst.2)
  have hb1 : b + 1 < q1 := by have := D0.out.res.lt; omega
  have HBQ1 := Lib.hid hb1
  clear hZ1 hst hth hwa1 hwb1 hb1 
  go_upto_region 5 with (first
    | (refine wpList_load_mid rfl 28 (.tmp 13) rfl b 44 rfl X1 _ HQ1.out Tryz.underlying28 rfl HI1.out ?_)
    | (with_reducible refine wpList_alloc_to _ _ rfl 28 rfl _ HZ1.out.1 HTH1.out.2.1 ?_)
    | (simp only [hq1]; refine wpList_store_mid rfl 28 (.tmp 4) (.tmp 14) rfl q1 0 X1.toArray rfl rfl (by rw [List.size_toArray]; exact HTH1.out.1) (by rw [List.size_toArray]; exact HI1.out) (all_oneCell_toArray HZ1.out.2.2.2) ?_))
  rw [HWB1.out]
  have xe : wb1.cell? ⟨q1, 37, none⟩ = some (.slice A1 p.ans.env.length c1) := by rw [CQ1.out.1.cell, ← hX1]; exact anL_env han
  go_upto_region 6 with (first
    | (go_at_call 27; refine (copyBytesD F _ p.ans.env _ (hv.out.ae.keep CQ1.out.2.1.kp (by simp)) hf.a).mono ?_; rintro e wc1 ⟨u0, G1, rfl, ⟨B1, d1, e1, rfl, i0⟩, n0, kk0⟩; have CR1 := Lib.hid (And.intro (kk0.row CQ1.out.1 (by simp)) (CQ1.out.2.1.over kk0)); have ye : wc1.cell? ⟨q1, 37, none⟩ = some (.slice A1 p.ans.env.length c1) := (kk0.cell (p := ⟨q1, 37, none⟩) CQ1.out.1.lt (by simp)).trans xe; have fe := CR1.out.1.free 37; have EB1 : Hid (cpB b wc1 G1 (.slice B1 p.ans.env.length d1) p.ans.env ∧ (∀ y ∈ G1, y ≠ q1)) := Lib.hid ⟨⟨⟨B1, d1, e1, rfl, i0⟩, newB.of n0 CQ1.out.2.1.res.lt⟩, fun y hy => by have := (n0 y hy).1; have := CQ1.out.1.lt; omega⟩; have Eb := Lib.hid (Ea.out.over kk0); clear i0 n0 kk0 xe))
  have ks := (keepBut.refl [q1] wc1).setCell ⟨q1, 37, none⟩ (.slice B1 p.ans.env.length d1) (.inl (by simp))
  have CS1 := Lib.hid (show rowAt (wc1.setCell ⟨q1, 37, none⟩ (.slice B1 p.ans.env.length d1)) q1 28 (anL p.ans (.slice B1 p.ans.env.length d1)).toArray from (by have hh := CR1.out.1; rw [← hX1] at hh; have h2 := hh.set 37 (.slice B1 p.ans.env.length d1); rw [anL_setE han] at h2; exact h2))
  have CT1 := Lib.hid (show cpAt w (wc1.setCell ⟨q1, 37, none⟩ (.slice B1 p.ans.env.length d1)) b p _ _ _ _ _ from ⟨ks.row CR1.out.2.row (by have := HBQ1.out; simp; omega), ks.row CR1.out.2.res (by have := HBQ1.out; simp; omega), CR1.out.2.kp.setCell _ _ (.inr (by have := HBQ1.out; have := HB.out.2; show w.heap.size ≤ q1; omega))⟩)
  have EC1 := Lib.hid (EB1.out.1.keepS ks (fun y hy => by have := EB1.out.2 y hy; simpa using this))
  have Ec := Lib.hid (Eb.out.keepS ks (fun y hy => by have := (E0.out.2 y hy).2; have := HTH1.out.2.2; simp; omega))
  obtain ⟨wd1, hwd1⟩ : ∃ q, wc1.setCell ⟨q1, 37, none⟩ (.slice B1 p.ans.env.length d1) = q := ⟨_, rfl⟩
  rw [hwd1] at CS1 CT1 EC1 Ec ⊢
  obtain ⟨Y1, hY1⟩ : ∃ X, anL p.ans (.slice B1 p.ans.env.length d1) = X := ⟨_, rfl⟩
  rw [hY1] at CS1
  have HY1 := Lib.hid (show Y1.length = 38 ∧ (∀ u ∈ Y1, u.oneCell' = true) by rw [← hY1]; exact ⟨anL_len han, anL_one _ rfl⟩)
  have HJ1 := Lib.hid (show (Tryz.prog.info? 28).map (·.size) = some Y1.length by rw [HY1.out.1]; exact info_an)
  have HTB1 := Lib.hid (CT1.out.row.there (o := 44) (n := Y1.length) (by rw [HY1.out.1, List.size_toArray, pkL_len hrn han]; decide))
  clear hX1 hwd1 ks ye fe CR1 EB1 CQ1 hq1 Eb Ea
  go_upto_region 7 with (first
    | (refine wpList_load_mid rfl 28 (.tmp 4) rfl q1 0 rfl Y1 _ CS1.out.rangeAll Tryz.underlying28 rfl HJ1.out ?_)
    | (refine wpList_store_mid rfl 28 (.tmp 20) (.tmp 19) rfl b 44 Y1.toArray rfl rfl (by rw [List.size_toArray]; exact HTB1.out) (by rw [List.size_toArray]; exact HJ1.out) (all_oneCell_toArray HY1.out.2) ?_))
  have D1 := Lib.hid (CT1.out.put HB.out.2 44 Y1 (by rw [← hY1]; exact pkL_putAR hrn han _))
  have kz : keepBut [b] wd1 (wd1.setCells b 44 Y1) := (keepBut.refl [b] wd1).setL (.inl (by simp))
  have E1 := Lib.hid (EC1.out.keep kz)
  have Ed := Lib.hid (Ec.out.keep kz)
  obtain ⟨we1, hwe1⟩ : ∃ q, wd1.setCells b 44 Y1 = q := ⟨_, rfl⟩
  rw [hwe1] at D1 E1 Ed ⊢
  clear hY1 kz hwe1 CS1 CT1 EC1 HTB1 Ec
  -- the configuration
  have P2 := D1.out.row.pk hrn han
  have x82 := P2.d0
  have x83 := P2.d1
  have x84 := P2.d2
  clear P2
  go_upto_region 8 with (first
    | (go_at_call 87; refine (copyConfD F p.conf _ _ (hv.out.cc.keep D1.out.kp (by simp)) hf.c).mono ?_; rintro e w7 ⟨u0, G2, rfl, ⟨B2, d2, q2, rfl, i0⟩, n0, kk0⟩; dsimp only [cfL]; have C1 := Lib.hid (D1.out.over kk0); have P3 := C1.out.row.pk hrn han; have y82 := P3.d0; have y83 := P3.d1; have y84 := P3.d2; have f82 := C1.out.row.free 82; have f83 := C1.out.row.free 83; have f84 := C1.out.row.free 84; have E4 := Lib.hid (And.intro (Ed.out.over kk0) (E1.out.over kk0)); have F4 : Hid (cpI b w7 G2 _ p.conf.chain) := Lib.hid ⟨⟨B2, d2, q2, rfl, i0⟩, newB.of n0 D1.out.res.lt⟩; clear i0 n0 kk0 x82 x83 x84 P3))
  have D3 := Lib.hid (((C1.out.set HB.out.2 82 _ (pkL_setT hrn han (.int .i64 0)).1).set HB.out.2 83 _ (pkL_setT hrn han (.int .i64 0)).2.1).set HB.out.2 84 (.slice B2 p.conf.chain.length d2) (pkL_setT hrn han _).2.2.1)
  have kc := ((kset w7 b 82 (.int .i64 p.conf.num)).setCell ⟨b, 83, none⟩ (.int .i64 p.conf.full) (.inl (by simp))).setCell ⟨b, 84, none⟩ (.slice B2 p.conf.chain.length d2) (.inl (by simp))
  have E5 := Lib.hid (And.intro (E4.out.1.keep kc) (And.intro (E4.out.2.keep kc) (F4.out.keep kc)))
  obtain ⟨w8, hw8⟩ : ∃ w8, ((w7.setCell ⟨b, 82, none⟩ (.int .i64 p.conf.num)).setCell ⟨b, 83, none⟩ (.int .i64 p.conf.full)).setCell ⟨b, 84, none⟩ (.slice B2 p.conf.chain.length d2) = w8 := ⟨_, rfl⟩
  rw [hw8] at D3 E5 ⊢
  clear hw8 kc E4 F4 E1 Ed C1 y82 y83 y84 f82 f83 f84 D1
  -- the votes
  have x85 := (D3.out.row.pk hrn han).d3
  go_upto_region 9 with (first
    | (go_at_call 88; refine (copyVotesD F p.votes _ _ (hv.out.vs.keep D3.out.kp (by simp)) hf.v hf.vc).mono ?_; rintro e w9 ⟨u0, G3, rfl, ⟨V, cV, gV, TV, rfl, i0⟩, n0, kk0⟩; have C1 := Lib.hid (D3.out.over kk0); have y85 := (C1.out.row.pk hrn han).d3; have f85 := C1.out.row.free 85; have E6 := Lib.hid (And.intro (E5.out.1.over kk0) (And.intro (E5.out.2.1.over kk0) (E5.out.2.2.over kk0))); have V6 : Hid (votesV w9 G3 (.slice V p.votes.length cV) p.votes ∧ newB b w9 G3) := Lib.hid ⟨⟨V, cV, gV, TV, rfl, i0⟩, newB.of n0 D3.out.res.lt⟩; clear i0 n0 kk0 x85))
  have D4 := Lib.hid (C1.out.set HB.out.2 85 (.slice V p.votes.length cV) (pkL_setT hrn han _).2.2.2.1)
  have k9 := kset w9 b 85 (.slice V p.votes.length cV)
  have E7 := Lib.hid (And.intro (E6.out.1.keep k9) (And.intro (E6.out.2.1.keep k9) (And.intro (E6.out.2.2.keep k9) (And.intro (V6.out.1.keep k9 V6.out.2.far) (V6.out.2.keep k9)))))
  obtain ⟨wA, hwA⟩ : ∃ wA, w9.setCell ⟨b, 85, none⟩ (.slice V p.votes.length cV) = wA := ⟨_, rfl⟩
  rw [hwA] at D4 E7 ⊢
  clear hwA k9 y85 f85 C1 E6 V6 E5 D3
  -- the bytes
  have x86 := (D4.out.row.pk hrn han).d4
  go_upto_region 10 with (first
    | (go_at_call 27; refine (copyBytesD F _ p.bytes _ (hv.out.bs.keep D4.out.kp (by simp)) hf.b).mono ?_; rintro e wB ⟨u0, G4, rfl, ⟨B4, d4, q4, rfl, i0⟩, n0, kk0⟩; have C1 := Lib.hid (D4.out.over kk0); have y86 := (C1.out.row.pk hrn han).d4; have f86 := C1.out.row.free 86; have E8 := Lib.hid (And.intro (E7.out.1.over kk0) (And.intro (E7.out.2.1.over kk0) (And.intro (E7.out.2.2.1.over kk0) (And.intro (E7.out.2.2.2.1.keep kk0 (by simp)) (E7.out.2.2.2.2.keep kk0))))); have F9 : Hid (cpB b wB G4 _ p.bytes) := Lib.hid ⟨⟨B4, d4, q4, rfl, i0⟩, newB.of n0 D4.out.res.lt⟩; clear i0 n0 kk0 x86))
  have D6 := Lib.hid (C1.out.set HB.out.2 86 (.slice B4 p.bytes.length d4) (pkL_setT hrn han (.slice B4 p.bytes.length d4)).2.2.2.2)
  have kz := kset wB b 86 (.slice B4 p.bytes.length d4)
  have EZ := Lib.hid (And.intro (E8.out.1.keep kz) (And.intro (E8.out.2.1.keep kz) (And.intro (E8.out.2.2.1.keep kz) (And.intro (F9.out.keep kz) (And.intro (E8.out.2.2.2.1.keep kz E8.out.2.2.2.2.far) (E8.out.2.2.2.2.keep kz))))))
  obtain ⟨wZ, hwZ⟩ : ∃ wZ, wB.setCell ⟨b, 86, none⟩ (.slice B4 p.bytes.length d4) = wZ := ⟨_, rfl⟩
  rw [hwZ] at D6 EZ ⊢
  clear hwZ kz y86 f86 C1 E8 F9 E7 D4
  obtain ⟨X, hX⟩ : ∃ X, pkL p (.slice B0 p.req.env.length d0) (.slice B1 p.ans.env.length d1) (.slice B2 p.conf.chain.length d2) (.slice V p.votes.length cV) (.slice B4 p.bytes.length d4) = X := ⟨_, rfl⟩
  have hlen : X.length = 87 := by rw [← hX]; exact pkL_len hrn han
  have hone : ∀ u ∈ X, u.oneCell' = true := by rw [← hX]; exact pkL_one rfl rfl rfl rfl rfl
  have hrow := D6.out.row
  rw [hX] at hrow
  have rz := hrow.rangeAll
  have rs := D6.out.res.setL (vs := X) (o := 0)
  rw [putL_all (by rw [hlen]; rfl)] at rs
  have ks := (keepBut.refl [b + 1] wZ).setL (vs := X) (g := b + 1) (o := 0) (by simp)
  have ks' := D6.out.kp.setL (vs := X) (g := b + 1) (o := 0) (.inr (by have := HB.out.1; omega))
  have ht := D6.out.res.there (o := 0) (n := X.toArray.size) (by rw [List.size_toArray, hlen]; exact Nat.le_refl _)
  have hI : (Tryz.prog.info? 34).map (·.size) = some X.length := by rw [hlen]; exact info_pk
  have hJ : (Tryz.prog.info? 34).map (·.size) = some X.toArray.size := by rw [List.size_toArray]; exact hI
  have HS := Lib.hid (And.intro rz (And.intro rs (And.intro ks (And.intro ht (And.intro hI (And.intro hJ ks'))))))
  have HC := Lib.hid (all_oneCell_toArray hone)
  have HX := Lib.hid hX
  clear rz rs ks ht hI hJ hlen hone ks' hX hrow
  go_wp2_with (first
    | (refine wpList_load_mid rfl 34 (.tmp 1) rfl b 0 rfl X _ HS.out.1 Tryz.underlying34 rfl HS.out.2.2.2.2.1 ?_)
    | (refine wpList_store_mid rfl 34 (.tmp 2) (.tmp 33) rfl (b + 1) 0 X.toArray rfl rfl HS.out.2.2.2.1 HS.out.2.2.2.2.2.1 HC.out ?_))
  refine bodyPost_ret (results_cell_row rfl _ _ (b + 1) 34 _ (0, 0) _ rfl HS.out.2.1 Tryz.underlying34 rfl HS.out.2.2.2.2.2.1) rfl ?_
  have hfarS : ∀ G, newB b wZ G → ∀ y ∈ G, y ∉ [b + 1] := fun G hG y hy => by have := (hG y hy).1; simp; omega
  refine ⟨G0 ++ (G1 ++ (G2 ++ (G3 ++ G4))), _, _, _, _, _, by rw [← HX.out], ⟨hrn, han, ?_, ?_, ?_, ?_, ?_⟩, ?_, HS.out.2.2.2.2.2.2⟩
  · exact (EZ.out.1.1.keep HS.out.2.2.1 (hfarS _ EZ.out.1.2)).more (fun y hy => by simp [hy])
  · exact (EZ.out.2.1.1.keep HS.out.2.2.1 (hfarS _ EZ.out.2.1.2)).more (fun y hy => by simp [hy])
  · exact (EZ.out.2.2.1.1.keep HS.out.2.2.1 (hfarS _ EZ.out.2.2.1.2)).more (fun y hy => by simp [hy])
  · exact (EZ.out.2.2.2.2.1.keep HS.out.2.2.1 (hfarS _ EZ.out.2.2.2.2.2)).more (fun y hy => by simp [hy])
  · exact (EZ.out.2.2.2.1.1.keep HS.out.2.2.1 (hfarS _ EZ.out.2.2.2.1.2)).more (fun y hy => by simp [hy])
  · have hall : newB b wZ (G0 ++ (G1 ++ (G2 ++ (G3 ++ G4)))) := fun y hy => by
      rcases List.mem_append.1 hy with hy | hy
      · exact EZ.out.1.2 y hy
      rcases List.mem_append.1 hy with hy | hy
      · exact EZ.out.2.1.2 y hy
      rcases List.mem_append.1 hy with hy | hy
      · exact EZ.out.2.2.1.2 y hy
      rcases List.mem_append.1 hy with hy | hy
      · exact EZ.out.2.2.2.2.2 y hy
      · exact EZ.out.2.2.2.1.2 y hy
    exact fun y hy => ⟨by have := (hall y hy).1; have := HB.out.1; omega, Nat.lt_of_lt_of_le (hall y hy).2 HS.out.2.2.1.size⟩
end Go.Proofs.YthfdkonhjpdflaaGreatDoor
