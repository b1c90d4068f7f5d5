/-
  SESSPLAYS, 18: the law's packet: another one.
-/
import Derived.Test.YtkpmlcgbffdloaaDoorSPlayS
import Derived.BigRegion
namespace Go.Proofs.YtkpmlcgbffdloaaDoor
open Go.RowKit
set_option linter.unusedVariables false
set_option maxRecDepth 100000
set_option linter.unusedSimpArgs false

set_option maxHeartbeats 4000000 in
theorem packet_other5 (mb : Nat) (s : SS) (sv sev : Value) (SF : List Nat) (G : List Nat) (d : DO) (cv ev xe xa xc xv xb : Value) (w : World) (hM : isM w mb s sv sev SF) (hb : 0 ≤ s.client ∧ s.client ≤ 2) (hd : doV w G d cv ev xe xa xc xv xb) (hG : ∀ y ∈ G, y < w.heap.size) (hk5 : d.kind % 8 ≠ 5) (hk6 : d.kind % 8 ≠ 6) (hl1 : 300 < d.p.ans.env.length) (hl2 : d.p.conf.chain.length ≤ 6) (h3n : 0 < d.n.tmod 3) :
    Calls Tryd.prog 32 #[.pointer (some ⟨mb, 0, none⟩), .agg (doL d cv ev xe xa xc xv xb).toArray] w (pktPost G (d.pkt7 s) w) := by
  have hXl : (doL d cv ev xe xa xc xv xb).length = 127 := doL_len hd.r.1 hd.p.rn hd.p.an
  have x0 : (doL d cv ev xe xa xc xv xb).toArray[0]? = some (.int .i64 d.kind) := rfl
  have x1 : (doL d cv ev xe xa xc xv xb).toArray[1]? = some (.int .i64 d.n) := rfl
  have x2 : (doL d cv ev xe xa xc xv xb).toArray[2]? = some cv := rfl
  have x39 : (doL d cv ev xe xa xc xv xb).toArray[39]? = some ev := doL_req d cv ev xe xa xc xv xb 36 ev (by have := rqL_env (ev := ev) hd.r.1; simpa using this)
  have xp : ∀ j v, (pkL d.p xe xa xc xv xb)[j]? = some v → (doL d cv ev xe xa xc xv xb).toArray[40 + j]? = some v := doL_pk hd.r.1
  obtain ⟨X, hX⟩ : ∃ X, doL d cv ev xe xa xc xv xb = X := ⟨_, rfl⟩
  rw [hX] at hXl x0 x1 x2 x39 xp ⊢
  obtain ⟨Z, hZ⟩ : ∃ Z, pkL pkZero nilV nilV nilV nilV nilV = Z := ⟨_, rfl⟩
  have hzv := zv_pk
  have hzl := pkZ_len
  rw [hZ] at hzv hzl
  have k1 := (keepBut.refl [] w).alloc (.cells X.toArray 46)
  have r1 := rowAt.new w 46 X.toArray
  have hs1 : (w.alloc (.cells X.toArray 46)).heap.size = w.heap.size + 1 := World.size_alloc ..
  obtain ⟨w1, hw1⟩ : ∃ w1, w.alloc (.cells X.toArray 46) = w1 := ⟨_, rfl⟩
  rw [hw1] at k1 r1 hs1
  have k2 := (keepBut.refl [] w1).alloc (.cells Z.toArray 44)
  have r2 := rowAt.new w1 44 Z.toArray
  obtain ⟨w2, hw2⟩ : ∃ w2, w1.alloc (.cells Z.toArray 44) = w2 := ⟨_, rfl⟩
  rw [hw2] at k2 r2
  have r1' := k2.row r1 (by simp)
  have k12 := k1.then k2 (by simp)
  obtain ⟨b, hbb⟩ : ∃ b, w.heap.size = b := ⟨_, rfl⟩
  obtain ⟨dd, hdd⟩ : ∃ d, w1.heap.size = d := ⟨_, rfl⟩
  rw [hbb] at r1'
  rw [hdd] at r2
  have hmw := hM.row.lt
  have hbd : b ≠ dd ∧ mb ≠ dd ∧ mb ≠ b := by omega
  have HS := Lib.hid (And.intro hbb (And.intro hdd (And.intro hs1 hmw)))
  have hM2 := hM.over k12
  have z0 := hM2.cells.1
  have y0 : w2.cell? ⟨b, 0, none⟩ = some (.int .i64 d.kind) := (r1'.cell 0).trans x0
  have y1 : w2.cell? ⟨b, 1, none⟩ = some (.int .i64 d.n) := (r1'.cell 1).trans x1
  have HP := Lib.hid (show ∀ w', keepBut [dd] w2 w' → w'.cell? ⟨b, 1, none⟩ = some (.int .i64 d.n) ∧ w'.cell? ⟨b, 2, none⟩ = some cv ∧ w'.cell? ⟨b, 39, none⟩ = some ev ∧ w'.cell? ⟨mb, 0, none⟩ = some (.int .i64 s.client) ∧ w'.cell? ⟨mb, 48, none⟩ = some (.int .i64 s.last) from fun w' hk => by
    have q := hM2.keep hk (by simpa using hbd.2.1) (fun y hy hm => by have h1 := (hM.far y hy).1; simp only [List.mem_singleton] at hm; omega)
    exact ⟨((hk.row r1' (by simpa using hbd.1)).cell 1).trans x1, ((hk.row r1' (by simpa using hbd.1)).cell 2).trans x2, ((hk.row r1' (by simpa using hbd.1)).cell 39).trans x39, q.cells.1, q.cells.2.2.2.2.2.2.2.2.2.2.2⟩)
  have HD := Lib.hid (And.intro hd hX)
  have HW := Lib.hid (And.intro hw1 (And.intro hw2 hzv))
  have HR := Lib.hid (And.intro r1' (And.intro r2 (And.intro k12 (And.intro hzl hXl))))
  have HXP := Lib.hid xp
  have HGO := Lib.hid hG
  obtain ⟨hb1, hb2⟩ := hb
  have hwr : IntKind.i64.wrap (20 + s.client) = 20 + s.client := by rw [IntKind.wrap_i64]; omega
  have HBK := Lib.hid (fun W => bring_any d.kind 8 hd.k.1 hd.k.2 (by decide) (by decide) W)
  have HB3 := Lib.hid (fun W => bring_any d.n 3 hd.n.1 hd.n.2 (by decide) (by decide) W)
  have HB9 := Lib.hid (fun W => bring_any d.n 9 hd.n.1 hd.n.2 (by decide) (by decide) W)
  have HB7 := Lib.hid (fun W => bring_any d.n 7 hd.n.1 hd.n.2 (by decide) (by decide) W)
  clear k1 r1 k2 r2 hw1 hw2 hzv hzl hs1 hX r1' k12 hXl x0 x1 x2 x39 xp hM hmw hbd hM2 hZ hG
  have e5 : (d.kind % 8 == 5) = false := by simpa using hk5
  have e6 : (d.kind % 8 == 6) = false := by simpa using hk6
  obtain ⟨kk, hkk⟩ : ∃ k, d.kind % 8 = k := ⟨_, rfl⟩
  rw [hkk] at e5 e6 HBK
  have hpv := hd.p
  obtain ⟨A1, c1, g1, rfl, a2, a3, _, _⟩ := hd.p.ae
  obtain ⟨A2, c2, g2, rfl, b2, b3, _, _⟩ := hd.p.cc
  have hae := hd.p.ae
  have hcc := hd.p.cc
  obtain ⟨m1, hm1⟩ : ∃ m, d.p.ans.env.length = m := ⟨_, rfl⟩
  obtain ⟨m2, hm2⟩ : ∃ m, d.p.conf.chain.length = m := ⟨_, rfl⟩
  rw [hm1] at a2 hae
  rw [hm2] at b2 hcc
  have hmx1 : m1 ≤ 9223372036854775807 := by unfold maxLen at a3; omega
  have hmx2 : m2 ≤ 9223372036854775807 := by unfold maxLen at b3; omega
  have hlen1 : 300 < m1 := by rw [hm1] at hl1; exact hl1
  have hlen2 : m2 ≤ 6 := by rw [hm2] at hl2; exact hl2
  have hKc1 : (300 : Nat) ≤ c1 := by omega
  have hKc2 : (m2 : Nat) ≤ c2 := by omega
  have q1 : bytesV w G (.slice A1 300 c1) (d.p.ans.env.take 300) := by have h := hae.cut (k := 300) (by omega); rwa [show d.p.ans.env.take 300 = d.p.ans.env.take 300 from rfl] at h
  have q2 : intsV w G (.slice A2 m2 c2) (d.p.conf.chain.take 6) := by have h := hcc.cut (k := m2) (by omega); rwa [show d.p.conf.chain.take m2 = d.p.conf.chain.take 6 from (by rw [List.take_of_length_le (by omega), List.take_of_length_le (by omega)])] at h
  have hval : pkV w G (d.pkt7 s) xe (.slice A1 300 c1) (.slice A2 m2 c2) xv xb := ⟨hpv.rn, hpv.an, hpv.re, q1, q2, hpv.vs, hpv.bs⟩
  obtain ⟨PX, hPX⟩ : ∃ P, pkL d.p xe (.slice A1 d.p.ans.env.length c1) (.slice A2 d.p.conf.chain.length c2) xv xb = P := ⟨_, rfl⟩
  have hPl : PX.length = 87 := by rw [← hPX]; exact pkL_len hpv.rn hpv.an
  have hPo : ∀ u ∈ PX, u.oneCell' = true := by rw [← hPX]; exact pkL_one hpv.re.one hpv.ae.one hpv.cc.one hpv.vs.one hpv.bs.one
  have p81 : PX.toArray[81]? = some (.slice A1 m1 c1) := by rw [← hPX, hm1]; exact pkL_ans hpv.rn 37 _ (by have := anL_env (ev := .slice A1 m1 c1) hpv.an; simpa using this)
  have p84 : PX.toArray[84]? = some (.slice A2 m2 c2) := by rw [← hPX, hm2]; exact pkL_tail hpv.rn hpv.an 2 _ rfl
  have p2 : PX.toArray[2]? = some (.int .i64 d.p.dst) := by rw [← hPX]; rfl
  obtain ⟨Y, hYY⟩ : ∃ Y, pkL (d.pkt7 s) xe (.slice A1 300 c1) (.slice A2 m2 c2) xv xb = Y := ⟨_, rfl⟩
  have hYl : Y.length = 87 := by rw [← hYY]; exact pkL_len hpv.rn hpv.an
  have hYo : ∀ u ∈ Y, u.oneCell' = true := by rw [← hYY]; exact pkL_one hval.re.one hval.ae.one hval.cc.one hval.vs.one hval.bs.one
  have hset : (((PX.set 2 (.int .i64 (20 + s.client))).set 81 (.slice A1 300 c1)).set 84 (.slice A2 m2 c2)) = Y := by
    rw [← hPX, ← hYY]
    rw [show (pkL d.p xe (.slice A1 d.p.ans.env.length c1) (.slice A2 d.p.conf.chain.length c2) xv xb).set 2 (.int .i64 (20 + s.client)) = pkL ⟨d.p.kind, d.p.frm, (20 + s.client), d.p.num, d.p.seq, d.p.ballot, d.p.ready, d.p.req, d.p.ans, d.p.conf, d.p.votes, d.p.bytes⟩ xe (.slice A1 d.p.ans.env.length c1) (.slice A2 d.p.conf.chain.length c2) xv xb from rfl]
    rw [pkL_set81 (p := ⟨d.p.kind, d.p.frm, (20 + s.client), d.p.num, d.p.seq, d.p.ballot, d.p.ready, d.p.req, d.p.ans, d.p.conf, d.p.votes, d.p.bytes⟩) hpv.rn hpv.an, pkL_set84 (p := ⟨d.p.kind, d.p.frm, (20 + s.client), d.p.num, d.p.seq, d.p.ballot, d.p.ready, d.p.req, d.p.ans, d.p.conf, d.p.votes, d.p.bytes⟩) hpv.rn hpv.an]
    unfold DO.pkt7
    rw [if_pos h3n]
    rfl
  have rX := HR.out.1.range (o := 40) (fun j v hv => HXP.out j v (by rw [hPX]; exact hv))
  have HY := Lib.hid (And.intro hYY (And.intro hYl (And.intro hYo (And.intro hset hval))))
  have HX := Lib.hid (And.intro hPl (And.intro hPo (And.intro p81 (And.intro p84 (And.intro p2 rX)))))
  clear hk5 hk6 hkk hpv hae hcc hm1 hm2 hl1 hl2 q1 q2 hval hPX hPl hPo p81 p84 p2 hYY hYl hYo hset rX hd a3 b3
  go_enter Tryd.func32, Tryd.ntmps32
  go_upto_region 8 with (first
    | (with_reducible refine wpList_box_to _ _ rfl 46 (.tmp 1) rfl _ rfl HW.out.1 ?_)
    | (with_reducible refine wpList_alloc_to _ _ rfl 44 rfl _ HW.out.2.2 HW.out.2.1 ?_)
    | (go_at_call 16; (with_reducible refine (HBK.out _).mono ?_); rintro e w' ⟨rfl, rfl⟩))
  try simp only [hbb, hdd]
  clear y0 z0
  have hs3 := storedP (w := w2) (t := 44) (Z := Z) (X := PX) (by rw [HX.out.1, HR.out.2.2.2.1])
  obtain ⟨yy, hyy⟩ : ∃ y, w2.heap.size = y := ⟨_, rfl⟩
  have HTh := Lib.hid (there_newP (w := w2) (t := 44) (Z := Z) (X := PX) (by rw [HX.out.1, HR.out.2.2.2.1]))
  rw [hyy] at HTh
  go_upto_region 9 with (first
    | (refine wpList_load_mid rfl 44 (.tmp 67) rfl b 40 rfl PX _ HX.out.2.2.2.2.2 Tryd.underlying44 rfl (by rw [HX.out.1]; exact info_pkS) ?_)
    | (with_reducible refine wpList_alloc_to _ _ rfl 44 rfl _ HW.out.2.2 rfl ?_; try simp only [hyy])
    | (refine wpList_store_mid rfl 44 (.tmp 7) (.tmp 68) rfl yy 0 PX.toArray rfl rfl HTh.out (by rw [List.size_toArray, HX.out.1]; exact info_pkS) (by simpa using HX.out.2.1) ?_))
  rw [hyy] at hs3
  generalize (w2.alloc (.cells Z.toArray 44)).setCells yy 0 PX = w3 at hs3 ⊢
  obtain ⟨r3, k3⟩ := hs3
  have y1' : w3.cell? ⟨b, 1, none⟩ = some (.int .i64 d.n) := ((k3.row HR.out.1 (by simp)).cell 1).trans ((HR.out.1.cell 1).symm.trans y1)
  have c2' := (r3.cell 2).trans HX.out.2.2.2.2.1
  have g2' := r3.free 2
  have H3 := Lib.hid (And.intro r3 (And.intro k3 hyy))
  clear r3 k3 y1 hyy HTh
  go_upto_region 11 with fail
  have r4 := H3.out.1.set 2 (.int .i64 (20 + s.client))
  have k4 := H3.out.2.1.setCell ⟨yy, 2, none⟩ (.int .i64 (20 + s.client)) (.inr (Nat.le_of_eq H3.out.2.2))
  generalize w3.setCell ⟨yy, 2, none⟩ (.int .i64 (20 + s.client)) = w4 at r4 k4 ⊢
  have e4 : (PX.toArray.setIfInBounds 2 (.int .i64 (20 + s.client))) = (PX.set 2 (.int .i64 (20 + s.client))).toArray := by simp
  try rw [e4] at r4
  obtain ⟨P4, hP4⟩ : ∃ P, PX.set 2 (.int .i64 (20 + s.client)) = P := ⟨_, rfl⟩
  have HP4 := Lib.hid hP4
  rw [hP4] at r4
  have c81 : w4.cell? ⟨yy, 81, none⟩ = some (.slice A1 m1 c1) := (r4.cell 81).trans (by rw [← hP4]; have h := HX.out.2.2.1; simpa [List.getElem?_set] using h)
  have c84 : w4.cell? ⟨yy, 84, none⟩ = some (.slice A2 m2 c2) := (r4.cell 84).trans (by rw [← hP4]; have h := HX.out.2.2.2.1; simpa [List.getElem?_set] using h)
  have f81 := r4.free 81
  have f84 := r4.free 84
  have H4 := Lib.hid (And.intro r4 k4)
  have hyb := H3.out.2.2
  clear r4 k4 e4 hP4 hyb y1' c2' g2' h3n e5 e6
  go_region
  have hyl : w2.heap.size ≤ yy := Nat.le_of_eq H3.out.2.2
  have r5 := (H4.out.1.set 81 (.slice A1 300 c1)).set 84 (.slice A2 m2 c2)
  have k5 := ((H4.out.2.setCell ⟨yy, 81, none⟩ (.slice A1 300 c1) (.inr hyl)).setCell ⟨yy, 84, none⟩ (.slice A2 m2 c2) (.inr hyl)).drew
  have e5 : (P4.toArray.setIfInBounds 81 (.slice A1 300 c1)).setIfInBounds 84 (.slice A2 m2 c2) = Y.toArray := by rw [← HY.out.2.2.2.1, ← HP4.out]; simp
  rw [e5] at r5
  replace r5 := ((keepBut.refl [] _).drew).row r5 (by simp)
  generalize ((w4.setCell ⟨yy, 81, none⟩ (.slice A1 300 c1)).setCell ⟨yy, 84, none⟩ (.slice A2 m2 c2)).drew = w6 at r5 k5 ⊢
  have rd := k5.row HR.out.2.1 (by simp)
  have HT := Lib.hid (rd.there (o := 0) (n := 87) (by rw [List.size_toArray, HR.out.2.2.2.1]; decide))
  have H6 := Lib.hid (And.intro r5 (And.intro rd k5))
  clear r5 rd k5 e5 c81 c84 f81 f84 hyl
  go_wp2_with (first
    | (refine wpList_load_mid rfl 44 (.tmp 7) rfl yy 0 rfl Y _ H6.out.1.rangeAll Tryd.underlying44 rfl (by rw [HY.out.2.1]; exact info_pkS) ?_)
    | (refine wpList_store_mid rfl 44 (.tmp 4) (.tmp 97) rfl dd 0 Y.toArray rfl rfl (by rw [List.size_toArray, HY.out.2.1]; exact HT.out) (by rw [List.size_toArray, HY.out.2.1]; exact info_pkS) (by simpa using HY.out.2.2.1) ?_))
  have r9 := set0 H6.out.2.1 (show Y.length = Z.length by rw [HY.out.2.1, HR.out.2.2.2.1])
  refine bodyPost_ret (results_cell_row rfl _ _ dd 44 _ (0, 0) _ rfl r9 Tryd.underlying44 rfl (by rw [List.size_toArray, HY.out.2.1]; exact info_pkS)) rfl ?_
  have KF : keepBut [dd] w2 (w6.setCells dd 0 Y) := (H6.out.2.2.more (T := [dd]) (by simp)).setL (.inl (by simp))
  refine ⟨_, _, _, _, _, by rw [HY.out.1], (HY.out.2.2.2.2.keep HR.out.2.2.1 (by simp)).keep KF (fun y hy hm => ?_), HR.out.2.2.1.then KF (fun y hy => .inr ?_)⟩
  · have h1 := HGO.out y hy
    have h2 := HS.out
    simp only [List.mem_singleton] at hm
    omega
  · have h2 := HS.out
    simp only [List.mem_singleton] at hy
    omega
set_option maxHeartbeats 4000000 in
theorem packet_other6 (mb : Nat) (s : SS) (sv sev : Value) (SF : List Nat) (G : List Nat) (d : DO) (cv ev xe xa xc xv xb : Value) (w : World) (hM : isM w mb s sv sev SF) (hb : 0 ≤ s.client ∧ s.client ≤ 2) (hd : doV w G d cv ev xe xa xc xv xb) (hG : ∀ y ∈ G, y < w.heap.size) (hk5 : d.kind % 8 ≠ 5) (hk6 : d.kind % 8 ≠ 6) (hl1 : 300 < d.p.ans.env.length) (hl2 : d.p.conf.chain.length ≤ 6) (h3n : ¬ 0 < d.n.tmod 3) :
    Calls Tryd.prog 32 #[.pointer (some ⟨mb, 0, none⟩), .agg (doL d cv ev xe xa xc xv xb).toArray] w (pktPost G (d.pkt7 s) w) := by
  have hXl : (doL d cv ev xe xa xc xv xb).length = 127 := doL_len hd.r.1 hd.p.rn hd.p.an
  have x0 : (doL d cv ev xe xa xc xv xb).toArray[0]? = some (.int .i64 d.kind) := rfl
  have x1 : (doL d cv ev xe xa xc xv xb).toArray[1]? = some (.int .i64 d.n) := rfl
  have x2 : (doL d cv ev xe xa xc xv xb).toArray[2]? = some cv := rfl
  have x39 : (doL d cv ev xe xa xc xv xb).toArray[39]? = some ev := doL_req d cv ev xe xa xc xv xb 36 ev (by have := rqL_env (ev := ev) hd.r.1; simpa using this)
  have xp : ∀ j v, (pkL d.p xe xa xc xv xb)[j]? = some v → (doL d cv ev xe xa xc xv xb).toArray[40 + j]? = some v := doL_pk hd.r.1
  obtain ⟨X, hX⟩ : ∃ X, doL d cv ev xe xa xc xv xb = X := ⟨_, rfl⟩
  rw [hX] at hXl x0 x1 x2 x39 xp ⊢
  obtain ⟨Z, hZ⟩ : ∃ Z, pkL pkZero nilV nilV nilV nilV nilV = Z := ⟨_, rfl⟩
  have hzv := zv_pk
  have hzl := pkZ_len
  rw [hZ] at hzv hzl
  have k1 := (keepBut.refl [] w).alloc (.cells X.toArray 46)
  have r1 := rowAt.new w 46 X.toArray
  have hs1 : (w.alloc (.cells X.toArray 46)).heap.size = w.heap.size + 1 := World.size_alloc ..
  obtain ⟨w1, hw1⟩ : ∃ w1, w.alloc (.cells X.toArray 46) = w1 := ⟨_, rfl⟩
  rw [hw1] at k1 r1 hs1
  have k2 := (keepBut.refl [] w1).alloc (.cells Z.toArray 44)
  have r2 := rowAt.new w1 44 Z.toArray
  obtain ⟨w2, hw2⟩ : ∃ w2, w1.alloc (.cells Z.toArray 44) = w2 := ⟨_, rfl⟩
  rw [hw2] at k2 r2
  have r1' := k2.row r1 (by simp)
  have k12 := k1.then k2 (by simp)
  obtain ⟨b, hbb⟩ : ∃ b, w.heap.size = b := ⟨_, rfl⟩
  obtain ⟨dd, hdd⟩ : ∃ d, w1.heap.size = d := ⟨_, rfl⟩
  rw [hbb] at r1'
  rw [hdd] at r2
  have hmw := hM.row.lt
  have hbd : b ≠ dd ∧ mb ≠ dd ∧ mb ≠ b := by omega
  have HS := Lib.hid (And.intro hbb (And.intro hdd (And.intro hs1 hmw)))
  have hM2 := hM.over k12
  have z0 := hM2.cells.1
  have y0 : w2.cell? ⟨b, 0, none⟩ = some (.int .i64 d.kind) := (r1'.cell 0).trans x0
  have y1 : w2.cell? ⟨b, 1, none⟩ = some (.int .i64 d.n) := (r1'.cell 1).trans x1
  have HP := Lib.hid (show ∀ w', keepBut [dd] w2 w' → w'.cell? ⟨b, 1, none⟩ = some (.int .i64 d.n) ∧ w'.cell? ⟨b, 2, none⟩ = some cv ∧ w'.cell? ⟨b, 39, none⟩ = some ev ∧ w'.cell? ⟨mb, 0, none⟩ = some (.int .i64 s.client) ∧ w'.cell? ⟨mb, 48, none⟩ = some (.int .i64 s.last) from fun w' hk => by
    have q := hM2.keep hk (by simpa using hbd.2.1) (fun y hy hm => by have h1 := (hM.far y hy).1; simp only [List.mem_singleton] at hm; omega)
    exact ⟨((hk.row r1' (by simpa using hbd.1)).cell 1).trans x1, ((hk.row r1' (by simpa using hbd.1)).cell 2).trans x2, ((hk.row r1' (by simpa using hbd.1)).cell 39).trans x39, q.cells.1, q.cells.2.2.2.2.2.2.2.2.2.2.2⟩)
  have HD := Lib.hid (And.intro hd hX)
  have HW := Lib.hid (And.intro hw1 (And.intro hw2 hzv))
  have HR := Lib.hid (And.intro r1' (And.intro r2 (And.intro k12 (And.intro hzl hXl))))
  have HXP := Lib.hid xp
  have HGO := Lib.hid hG
  obtain ⟨hb1, hb2⟩ := hb
  have hwr : IntKind.i64.wrap (20 + s.client) = 20 + s.client := by rw [IntKind.wrap_i64]; omega
  have HBK := Lib.hid (fun W => bring_any d.kind 8 hd.k.1 hd.k.2 (by decide) (by decide) W)
  have HB3 := Lib.hid (fun W => bring_any d.n 3 hd.n.1 hd.n.2 (by decide) (by decide) W)
  have HB9 := Lib.hid (fun W => bring_any d.n 9 hd.n.1 hd.n.2 (by decide) (by decide) W)
  have HB7 := Lib.hid (fun W => bring_any d.n 7 hd.n.1 hd.n.2 (by decide) (by decide) W)
  clear k1 r1 k2 r2 hw1 hw2 hzv hzl hs1 hX r1' k12 hXl x0 x1 x2 x39 xp hM hmw hbd hM2 hZ hG
  have e5 : (d.kind % 8 == 5) = false := by simpa using hk5
  have e6 : (d.kind % 8 == 6) = false := by simpa using hk6
  obtain ⟨kk, hkk⟩ : ∃ k, d.kind % 8 = k := ⟨_, rfl⟩
  rw [hkk] at e5 e6 HBK
  have hpv := hd.p
  obtain ⟨A1, c1, g1, rfl, a2, a3, _, _⟩ := hd.p.ae
  obtain ⟨A2, c2, g2, rfl, b2, b3, _, _⟩ := hd.p.cc
  have hae := hd.p.ae
  have hcc := hd.p.cc
  obtain ⟨m1, hm1⟩ : ∃ m, d.p.ans.env.length = m := ⟨_, rfl⟩
  obtain ⟨m2, hm2⟩ : ∃ m, d.p.conf.chain.length = m := ⟨_, rfl⟩
  rw [hm1] at a2 hae
  rw [hm2] at b2 hcc
  have hmx1 : m1 ≤ 9223372036854775807 := by unfold maxLen at a3; omega
  have hmx2 : m2 ≤ 9223372036854775807 := by unfold maxLen at b3; omega
  have hlen1 : 300 < m1 := by rw [hm1] at hl1; exact hl1
  have hlen2 : m2 ≤ 6 := by rw [hm2] at hl2; exact hl2
  have hKc1 : (300 : Nat) ≤ c1 := by omega
  have hKc2 : (m2 : Nat) ≤ c2 := by omega
  have q1 : bytesV w G (.slice A1 300 c1) (d.p.ans.env.take 300) := by have h := hae.cut (k := 300) (by omega); rwa [show d.p.ans.env.take 300 = d.p.ans.env.take 300 from rfl] at h
  have q2 : intsV w G (.slice A2 m2 c2) (d.p.conf.chain.take 6) := by have h := hcc.cut (k := m2) (by omega); rwa [show d.p.conf.chain.take m2 = d.p.conf.chain.take 6 from (by rw [List.take_of_length_le (by omega), List.take_of_length_le (by omega)])] at h
  have hval : pkV w G (d.pkt7 s) xe (.slice A1 300 c1) (.slice A2 m2 c2) xv xb := ⟨hpv.rn, hpv.an, hpv.re, q1, q2, hpv.vs, hpv.bs⟩
  obtain ⟨PX, hPX⟩ : ∃ P, pkL d.p xe (.slice A1 d.p.ans.env.length c1) (.slice A2 d.p.conf.chain.length c2) xv xb = P := ⟨_, rfl⟩
  have hPl : PX.length = 87 := by rw [← hPX]; exact pkL_len hpv.rn hpv.an
  have hPo : ∀ u ∈ PX, u.oneCell' = true := by rw [← hPX]; exact pkL_one hpv.re.one hpv.ae.one hpv.cc.one hpv.vs.one hpv.bs.one
  have p81 : PX.toArray[81]? = some (.slice A1 m1 c1) := by rw [← hPX, hm1]; exact pkL_ans hpv.rn 37 _ (by have := anL_env (ev := .slice A1 m1 c1) hpv.an; simpa using this)
  have p84 : PX.toArray[84]? = some (.slice A2 m2 c2) := by rw [← hPX, hm2]; exact pkL_tail hpv.rn hpv.an 2 _ rfl
  have p2 : PX.toArray[2]? = some (.int .i64 d.p.dst) := by rw [← hPX]; rfl
  obtain ⟨Y, hYY⟩ : ∃ Y, pkL (d.pkt7 s) xe (.slice A1 300 c1) (.slice A2 m2 c2) xv xb = Y := ⟨_, rfl⟩
  have hYl : Y.length = 87 := by rw [← hYY]; exact pkL_len hpv.rn hpv.an
  have hYo : ∀ u ∈ Y, u.oneCell' = true := by rw [← hYY]; exact pkL_one hval.re.one hval.ae.one hval.cc.one hval.vs.one hval.bs.one
  have hset : (((PX.set 2 (.int .i64 d.p.dst)).set 81 (.slice A1 300 c1)).set 84 (.slice A2 m2 c2)) = Y := by
    rw [← hPX, ← hYY]
    rw [show (pkL d.p xe (.slice A1 d.p.ans.env.length c1) (.slice A2 d.p.conf.chain.length c2) xv xb).set 2 (.int .i64 d.p.dst) = pkL ⟨d.p.kind, d.p.frm, d.p.dst, d.p.num, d.p.seq, d.p.ballot, d.p.ready, d.p.req, d.p.ans, d.p.conf, d.p.votes, d.p.bytes⟩ xe (.slice A1 d.p.ans.env.length c1) (.slice A2 d.p.conf.chain.length c2) xv xb from rfl]
    rw [pkL_set81 (p := ⟨d.p.kind, d.p.frm, d.p.dst, d.p.num, d.p.seq, d.p.ballot, d.p.ready, d.p.req, d.p.ans, d.p.conf, d.p.votes, d.p.bytes⟩) hpv.rn hpv.an, pkL_set84 (p := ⟨d.p.kind, d.p.frm, d.p.dst, d.p.num, d.p.seq, d.p.ballot, d.p.ready, d.p.req, d.p.ans, d.p.conf, d.p.votes, d.p.bytes⟩) hpv.rn hpv.an]
    unfold DO.pkt7
    rw [if_neg h3n]
    rfl
  have rX := HR.out.1.range (o := 40) (fun j v hv => HXP.out j v (by rw [hPX]; exact hv))
  have HY := Lib.hid (And.intro hYY (And.intro hYl (And.intro hYo (And.intro hset hval))))
  have HX := Lib.hid (And.intro hPl (And.intro hPo (And.intro p81 (And.intro p84 (And.intro p2 rX)))))
  clear hk5 hk6 hkk hpv hae hcc hm1 hm2 hl1 hl2 q1 q2 hval hPX hPl hPo p81 p84 p2 hYY hYl hYo hset rX hd a3 b3
  go_enter Tryd.func32, Tryd.ntmps32
  go_upto_region 8 with (first
    | (with_reducible refine wpList_box_to _ _ rfl 46 (.tmp 1) rfl _ rfl HW.out.1 ?_)
    | (with_reducible refine wpList_alloc_to _ _ rfl 44 rfl _ HW.out.2.2 HW.out.2.1 ?_)
    | (go_at_call 16; (with_reducible refine (HBK.out _).mono ?_); rintro e w' ⟨rfl, rfl⟩))
  try simp only [hbb, hdd]
  clear y0 z0
  have hs3 := storedP (w := w2) (t := 44) (Z := Z) (X := PX) (by rw [HX.out.1, HR.out.2.2.2.1])
  obtain ⟨yy, hyy⟩ : ∃ y, w2.heap.size = y := ⟨_, rfl⟩
  have HTh := Lib.hid (there_newP (w := w2) (t := 44) (Z := Z) (X := PX) (by rw [HX.out.1, HR.out.2.2.2.1]))
  rw [hyy] at HTh
  go_upto_region 9 with (first
    | (refine wpList_load_mid rfl 44 (.tmp 67) rfl b 40 rfl PX _ HX.out.2.2.2.2.2 Tryd.underlying44 rfl (by rw [HX.out.1]; exact info_pkS) ?_)
    | (with_reducible refine wpList_alloc_to _ _ rfl 44 rfl _ HW.out.2.2 rfl ?_; try simp only [hyy])
    | (refine wpList_store_mid rfl 44 (.tmp 7) (.tmp 68) rfl yy 0 PX.toArray rfl rfl HTh.out (by rw [List.size_toArray, HX.out.1]; exact info_pkS) (by simpa using HX.out.2.1) ?_))
  rw [hyy] at hs3
  generalize (w2.alloc (.cells Z.toArray 44)).setCells yy 0 PX = w3 at hs3 ⊢
  obtain ⟨r3, k3⟩ := hs3
  have y1' : w3.cell? ⟨b, 1, none⟩ = some (.int .i64 d.n) := ((k3.row HR.out.1 (by simp)).cell 1).trans ((HR.out.1.cell 1).symm.trans y1)
  have c2' := (r3.cell 2).trans HX.out.2.2.2.2.1
  have g2' := r3.free 2
  have H3 := Lib.hid (And.intro r3 (And.intro k3 hyy))
  clear r3 k3 y1 hyy HTh
  go_upto_region 11 with fail
  have r4 : rowAt w3 yy 44 (PX.set 2 (.int .i64 d.p.dst)).toArray := by
    have e : PX.set 2 (.int .i64 d.p.dst) = PX := set_same (by have h := HX.out.2.2.2.2.1; simpa using h)
    rw [e]; exact H3.out.1
  have k4 := H3.out.2.1
  generalize w3 = w4 at r4 k4 ⊢
  have e4 : (PX.toArray.setIfInBounds 2 (.int .i64 d.p.dst)) = (PX.set 2 (.int .i64 d.p.dst)).toArray := by simp
  try rw [e4] at r4
  obtain ⟨P4, hP4⟩ : ∃ P, PX.set 2 (.int .i64 d.p.dst) = P := ⟨_, rfl⟩
  have HP4 := Lib.hid hP4
  rw [hP4] at r4
  have c81 : w4.cell? ⟨yy, 81, none⟩ = some (.slice A1 m1 c1) := (r4.cell 81).trans (by rw [← hP4]; have h := HX.out.2.2.1; simpa [List.getElem?_set] using h)
  have c84 : w4.cell? ⟨yy, 84, none⟩ = some (.slice A2 m2 c2) := (r4.cell 84).trans (by rw [← hP4]; have h := HX.out.2.2.2.1; simpa [List.getElem?_set] using h)
  have f81 := r4.free 81
  have f84 := r4.free 84
  have H4 := Lib.hid (And.intro r4 k4)
  have hyb := H3.out.2.2
  clear r4 k4 e4 hP4 hyb y1' c2' g2' h3n e5 e6
  go_region
  have hyl : w2.heap.size ≤ yy := Nat.le_of_eq H3.out.2.2
  have r5 := (H4.out.1.set 81 (.slice A1 300 c1)).set 84 (.slice A2 m2 c2)
  have k5 := ((H4.out.2.setCell ⟨yy, 81, none⟩ (.slice A1 300 c1) (.inr hyl)).setCell ⟨yy, 84, none⟩ (.slice A2 m2 c2) (.inr hyl)).drew
  have e5 : (P4.toArray.setIfInBounds 81 (.slice A1 300 c1)).setIfInBounds 84 (.slice A2 m2 c2) = Y.toArray := by rw [← HY.out.2.2.2.1, ← HP4.out]; simp
  rw [e5] at r5
  replace r5 := ((keepBut.refl [] _).drew).row r5 (by simp)
  generalize ((w4.setCell ⟨yy, 81, none⟩ (.slice A1 300 c1)).setCell ⟨yy, 84, none⟩ (.slice A2 m2 c2)).drew = w6 at r5 k5 ⊢
  have rd := k5.row HR.out.2.1 (by simp)
  have HT := Lib.hid (rd.there (o := 0) (n := 87) (by rw [List.size_toArray, HR.out.2.2.2.1]; decide))
  have H6 := Lib.hid (And.intro r5 (And.intro rd k5))
  clear r5 rd k5 e5 c81 c84 f81 f84 hyl
  go_wp2_with (first
    | (refine wpList_load_mid rfl 44 (.tmp 7) rfl yy 0 rfl Y _ H6.out.1.rangeAll Tryd.underlying44 rfl (by rw [HY.out.2.1]; exact info_pkS) ?_)
    | (refine wpList_store_mid rfl 44 (.tmp 4) (.tmp 97) rfl dd 0 Y.toArray rfl rfl (by rw [List.size_toArray, HY.out.2.1]; exact HT.out) (by rw [List.size_toArray, HY.out.2.1]; exact info_pkS) (by simpa using HY.out.2.2.1) ?_))
  have r9 := set0 H6.out.2.1 (show Y.length = Z.length by rw [HY.out.2.1, HR.out.2.2.2.1])
  refine bodyPost_ret (results_cell_row rfl _ _ dd 44 _ (0, 0) _ rfl r9 Tryd.underlying44 rfl (by rw [List.size_toArray, HY.out.2.1]; exact info_pkS)) rfl ?_
  have KF : keepBut [dd] w2 (w6.setCells dd 0 Y) := (H6.out.2.2.more (T := [dd]) (by simp)).setL (.inl (by simp))
  refine ⟨_, _, _, _, _, by rw [HY.out.1], (HY.out.2.2.2.2.keep HR.out.2.2.1 (by simp)).keep KF (fun y hy hm => ?_), HR.out.2.2.1.then KF (fun y hy => .inr ?_)⟩
  · have h1 := HGO.out y hy
    have h2 := HS.out
    simp only [List.mem_singleton] at hm
    omega
  · have h2 := HS.out
    simp only [List.mem_singleton] at hy
    omega
set_option maxHeartbeats 4000000 in
theorem packet_other7 (mb : Nat) (s : SS) (sv sev : Value) (SF : List Nat) (G : List Nat) (d : DO) (cv ev xe xa xc xv xb : Value) (w : World) (hM : isM w mb s sv sev SF) (hb : 0 ≤ s.client ∧ s.client ≤ 2) (hd : doV w G d cv ev xe xa xc xv xb) (hG : ∀ y ∈ G, y < w.heap.size) (hk5 : d.kind % 8 ≠ 5) (hk6 : d.kind % 8 ≠ 6) (hl1 : 300 < d.p.ans.env.length) (hl2 : 6 < d.p.conf.chain.length) (h3n : 0 < d.n.tmod 3) :
    Calls Tryd.prog 32 #[.pointer (some ⟨mb, 0, none⟩), .agg (doL d cv ev xe xa xc xv xb).toArray] w (pktPost G (d.pkt7 s) w) := by
  have hXl : (doL d cv ev xe xa xc xv xb).length = 127 := doL_len hd.r.1 hd.p.rn hd.p.an
  have x0 : (doL d cv ev xe xa xc xv xb).toArray[0]? = some (.int .i64 d.kind) := rfl
  have x1 : (doL d cv ev xe xa xc xv xb).toArray[1]? = some (.int .i64 d.n) := rfl
  have x2 : (doL d cv ev xe xa xc xv xb).toArray[2]? = some cv := rfl
  have x39 : (doL d cv ev xe xa xc xv xb).toArray[39]? = some ev := doL_req d cv ev xe xa xc xv xb 36 ev (by have := rqL_env (ev := ev) hd.r.1; simpa using this)
  have xp : ∀ j v, (pkL d.p xe xa xc xv xb)[j]? = some v → (doL d cv ev xe xa xc xv xb).toArray[40 + j]? = some v := doL_pk hd.r.1
  obtain ⟨X, hX⟩ : ∃ X, doL d cv ev xe xa xc xv xb = X := ⟨_, rfl⟩
  rw [hX] at hXl x0 x1 x2 x39 xp ⊢
  obtain ⟨Z, hZ⟩ : ∃ Z, pkL pkZero nilV nilV nilV nilV nilV = Z := ⟨_, rfl⟩
  have hzv := zv_pk
  have hzl := pkZ_len
  rw [hZ] at hzv hzl
  have k1 := (keepBut.refl [] w).alloc (.cells X.toArray 46)
  have r1 := rowAt.new w 46 X.toArray
  have hs1 : (w.alloc (.cells X.toArray 46)).heap.size = w.heap.size + 1 := World.size_alloc ..
  obtain ⟨w1, hw1⟩ : ∃ w1, w.alloc (.cells X.toArray 46) = w1 := ⟨_, rfl⟩
  rw [hw1] at k1 r1 hs1
  have k2 := (keepBut.refl [] w1).alloc (.cells Z.toArray 44)
  have r2 := rowAt.new w1 44 Z.toArray
  obtain ⟨w2, hw2⟩ : ∃ w2, w1.alloc (.cells Z.toArray 44) = w2 := ⟨_, rfl⟩
  rw [hw2] at k2 r2
  have r1' := k2.row r1 (by simp)
  have k12 := k1.then k2 (by simp)
  obtain ⟨b, hbb⟩ : ∃ b, w.heap.size = b := ⟨_, rfl⟩
  obtain ⟨dd, hdd⟩ : ∃ d, w1.heap.size = d := ⟨_, rfl⟩
  rw [hbb] at r1'
  rw [hdd] at r2
  have hmw := hM.row.lt
  have hbd : b ≠ dd ∧ mb ≠ dd ∧ mb ≠ b := by omega
  have HS := Lib.hid (And.intro hbb (And.intro hdd (And.intro hs1 hmw)))
  have hM2 := hM.over k12
  have z0 := hM2.cells.1
  have y0 : w2.cell? ⟨b, 0, none⟩ = some (.int .i64 d.kind) := (r1'.cell 0).trans x0
  have y1 : w2.cell? ⟨b, 1, none⟩ = some (.int .i64 d.n) := (r1'.cell 1).trans x1
  have HP := Lib.hid (show ∀ w', keepBut [dd] w2 w' → w'.cell? ⟨b, 1, none⟩ = some (.int .i64 d.n) ∧ w'.cell? ⟨b, 2, none⟩ = some cv ∧ w'.cell? ⟨b, 39, none⟩ = some ev ∧ w'.cell? ⟨mb, 0, none⟩ = some (.int .i64 s.client) ∧ w'.cell? ⟨mb, 48, none⟩ = some (.int .i64 s.last) from fun w' hk => by
    have q := hM2.keep hk (by simpa using hbd.2.1) (fun y hy hm => by have h1 := (hM.far y hy).1; simp only [List.mem_singleton] at hm; omega)
    exact ⟨((hk.row r1' (by simpa using hbd.1)).cell 1).trans x1, ((hk.row r1' (by simpa using hbd.1)).cell 2).trans x2, ((hk.row r1' (by simpa using hbd.1)).cell 39).trans x39, q.cells.1, q.cells.2.2.2.2.2.2.2.2.2.2.2⟩)
  have HD := Lib.hid (And.intro hd hX)
  have HW := Lib.hid (And.intro hw1 (And.intro hw2 hzv))
  have HR := Lib.hid (And.intro r1' (And.intro r2 (And.intro k12 (And.intro hzl hXl))))
  have HXP := Lib.hid xp
  have HGO := Lib.hid hG
  obtain ⟨hb1, hb2⟩ := hb
  have hwr : IntKind.i64.wrap (20 + s.client) = 20 + s.client := by rw [IntKind.wrap_i64]; omega
  have HBK := Lib.hid (fun W => bring_any d.kind 8 hd.k.1 hd.k.2 (by decide) (by decide) W)
  have HB3 := Lib.hid (fun W => bring_any d.n 3 hd.n.1 hd.n.2 (by decide) (by decide) W)
  have HB9 := Lib.hid (fun W => bring_any d.n 9 hd.n.1 hd.n.2 (by decide) (by decide) W)
  have HB7 := Lib.hid (fun W => bring_any d.n 7 hd.n.1 hd.n.2 (by decide) (by decide) W)
  clear k1 r1 k2 r2 hw1 hw2 hzv hzl hs1 hX r1' k12 hXl x0 x1 x2 x39 xp hM hmw hbd hM2 hZ hG
  have e5 : (d.kind % 8 == 5) = false := by simpa using hk5
  have e6 : (d.kind % 8 == 6) = false := by simpa using hk6
  obtain ⟨kk, hkk⟩ : ∃ k, d.kind % 8 = k := ⟨_, rfl⟩
  rw [hkk] at e5 e6 HBK
  have hpv := hd.p
  obtain ⟨A1, c1, g1, rfl, a2, a3, _, _⟩ := hd.p.ae
  obtain ⟨A2, c2, g2, rfl, b2, b3, _, _⟩ := hd.p.cc
  have hae := hd.p.ae
  have hcc := hd.p.cc
  obtain ⟨m1, hm1⟩ : ∃ m, d.p.ans.env.length = m := ⟨_, rfl⟩
  obtain ⟨m2, hm2⟩ : ∃ m, d.p.conf.chain.length = m := ⟨_, rfl⟩
  rw [hm1] at a2 hae
  rw [hm2] at b2 hcc
  have hmx1 : m1 ≤ 9223372036854775807 := by unfold maxLen at a3; omega
  have hmx2 : m2 ≤ 9223372036854775807 := by unfold maxLen at b3; omega
  have hlen1 : 300 < m1 := by rw [hm1] at hl1; exact hl1
  have hlen2 : 6 < m2 := by rw [hm2] at hl2; exact hl2
  have hKc1 : (300 : Nat) ≤ c1 := by omega
  have hKc2 : (6 : Nat) ≤ c2 := by omega
  have q1 : bytesV w G (.slice A1 300 c1) (d.p.ans.env.take 300) := by have h := hae.cut (k := 300) (by omega); rwa [show d.p.ans.env.take 300 = d.p.ans.env.take 300 from rfl] at h
  have q2 : intsV w G (.slice A2 6 c2) (d.p.conf.chain.take 6) := by have h := hcc.cut (k := 6) (by omega); rwa [show d.p.conf.chain.take 6 = d.p.conf.chain.take 6 from rfl] at h
  have hval : pkV w G (d.pkt7 s) xe (.slice A1 300 c1) (.slice A2 6 c2) xv xb := ⟨hpv.rn, hpv.an, hpv.re, q1, q2, hpv.vs, hpv.bs⟩
  obtain ⟨PX, hPX⟩ : ∃ P, pkL d.p xe (.slice A1 d.p.ans.env.length c1) (.slice A2 d.p.conf.chain.length c2) xv xb = P := ⟨_, rfl⟩
  have hPl : PX.length = 87 := by rw [← hPX]; exact pkL_len hpv.rn hpv.an
  have hPo : ∀ u ∈ PX, u.oneCell' = true := by rw [← hPX]; exact pkL_one hpv.re.one hpv.ae.one hpv.cc.one hpv.vs.one hpv.bs.one
  have p81 : PX.toArray[81]? = some (.slice A1 m1 c1) := by rw [← hPX, hm1]; exact pkL_ans hpv.rn 37 _ (by have := anL_env (ev := .slice A1 m1 c1) hpv.an; simpa using this)
  have p84 : PX.toArray[84]? = some (.slice A2 m2 c2) := by rw [← hPX, hm2]; exact pkL_tail hpv.rn hpv.an 2 _ rfl
  have p2 : PX.toArray[2]? = some (.int .i64 d.p.dst) := by rw [← hPX]; rfl
  obtain ⟨Y, hYY⟩ : ∃ Y, pkL (d.pkt7 s) xe (.slice A1 300 c1) (.slice A2 6 c2) xv xb = Y := ⟨_, rfl⟩
  have hYl : Y.length = 87 := by rw [← hYY]; exact pkL_len hpv.rn hpv.an
  have hYo : ∀ u ∈ Y, u.oneCell' = true := by rw [← hYY]; exact pkL_one hval.re.one hval.ae.one hval.cc.one hval.vs.one hval.bs.one
  have hset : (((PX.set 2 (.int .i64 (20 + s.client))).set 81 (.slice A1 300 c1)).set 84 (.slice A2 6 c2)) = Y := by
    rw [← hPX, ← hYY]
    rw [show (pkL d.p xe (.slice A1 d.p.ans.env.length c1) (.slice A2 d.p.conf.chain.length c2) xv xb).set 2 (.int .i64 (20 + s.client)) = pkL ⟨d.p.kind, d.p.frm, (20 + s.client), d.p.num, d.p.seq, d.p.ballot, d.p.ready, d.p.req, d.p.ans, d.p.conf, d.p.votes, d.p.bytes⟩ xe (.slice A1 d.p.ans.env.length c1) (.slice A2 d.p.conf.chain.length c2) xv xb from rfl]
    rw [pkL_set81 (p := ⟨d.p.kind, d.p.frm, (20 + s.client), d.p.num, d.p.seq, d.p.ballot, d.p.ready, d.p.req, d.p.ans, d.p.conf, d.p.votes, d.p.bytes⟩) hpv.rn hpv.an, pkL_set84 (p := ⟨d.p.kind, d.p.frm, (20 + s.client), d.p.num, d.p.seq, d.p.ballot, d.p.ready, d.p.req, d.p.ans, d.p.conf, d.p.votes, d.p.bytes⟩) hpv.rn hpv.an]
    unfold DO.pkt7
    rw [if_pos h3n]
    rfl
  have rX := HR.out.1.range (o := 40) (fun j v hv => HXP.out j v (by rw [hPX]; exact hv))
  have HY := Lib.hid (And.intro hYY (And.intro hYl (And.intro hYo (And.intro hset hval))))
  have HX := Lib.hid (And.intro hPl (And.intro hPo (And.intro p81 (And.intro p84 (And.intro p2 rX)))))
  clear hk5 hk6 hkk hpv hae hcc hm1 hm2 hl1 hl2 q1 q2 hval hPX hPl hPo p81 p84 p2 hYY hYl hYo hset rX hd a3 b3
  go_enter Tryd.func32, Tryd.ntmps32
  go_upto_region 8 with (first
    | (with_reducible refine wpList_box_to _ _ rfl 46 (.tmp 1) rfl _ rfl HW.out.1 ?_)
    | (with_reducible refine wpList_alloc_to _ _ rfl 44 rfl _ HW.out.2.2 HW.out.2.1 ?_)
    | (go_at_call 16; (with_reducible refine (HBK.out _).mono ?_); rintro e w' ⟨rfl, rfl⟩))
  try simp only [hbb, hdd]
  clear y0 z0
  have hs3 := storedP (w := w2) (t := 44) (Z := Z) (X := PX) (by rw [HX.out.1, HR.out.2.2.2.1])
  obtain ⟨yy, hyy⟩ : ∃ y, w2.heap.size = y := ⟨_, rfl⟩
  have HTh := Lib.hid (there_newP (w := w2) (t := 44) (Z := Z) (X := PX) (by rw [HX.out.1, HR.out.2.2.2.1]))
  rw [hyy] at HTh
  go_upto_region 9 with (first
    | (refine wpList_load_mid rfl 44 (.tmp 67) rfl b 40 rfl PX _ HX.out.2.2.2.2.2 Tryd.underlying44 rfl (by rw [HX.out.1]; exact info_pkS) ?_)
    | (with_reducible refine wpList_alloc_to _ _ rfl 44 rfl _ HW.out.2.2 rfl ?_; try simp only [hyy])
    | (refine wpList_store_mid rfl 44 (.tmp 7) (.tmp 68) rfl yy 0 PX.toArray rfl rfl HTh.out (by rw [List.size_toArray, HX.out.1]; exact info_pkS) (by simpa using HX.out.2.1) ?_))
  rw [hyy] at hs3
  generalize (w2.alloc (.cells Z.toArray 44)).setCells yy 0 PX = w3 at hs3 ⊢
  obtain ⟨r3, k3⟩ := hs3
  have y1' : w3.cell? ⟨b, 1, none⟩ = some (.int .i64 d.n) := ((k3.row HR.out.1 (by simp)).cell 1).trans ((HR.out.1.cell 1).symm.trans y1)
  have c2' := (r3.cell 2).trans HX.out.2.2.2.2.1
  have g2' := r3.free 2
  have H3 := Lib.hid (And.intro r3 (And.intro k3 hyy))
  clear r3 k3 y1 hyy HTh
  go_upto_region 11 with fail
  have r4 := H3.out.1.set 2 (.int .i64 (20 + s.client))
  have k4 := H3.out.2.1.setCell ⟨yy, 2, none⟩ (.int .i64 (20 + s.client)) (.inr (Nat.le_of_eq H3.out.2.2))
  generalize w3.setCell ⟨yy, 2, none⟩ (.int .i64 (20 + s.client)) = w4 at r4 k4 ⊢
  have e4 : (PX.toArray.setIfInBounds 2 (.int .i64 (20 + s.client))) = (PX.set 2 (.int .i64 (20 + s.client))).toArray := by simp
  try rw [e4] at r4
  obtain ⟨P4, hP4⟩ : ∃ P, PX.set 2 (.int .i64 (20 + s.client)) = P := ⟨_, rfl⟩
  have HP4 := Lib.hid hP4
  rw [hP4] at r4
  have c81 : w4.cell? ⟨yy, 81, none⟩ = some (.slice A1 m1 c1) := (r4.cell 81).trans (by rw [← hP4]; have h := HX.out.2.2.1; simpa [List.getElem?_set] using h)
  have c84 : w4.cell? ⟨yy, 84, none⟩ = some (.slice A2 m2 c2) := (r4.cell 84).trans (by rw [← hP4]; have h := HX.out.2.2.2.1; simpa [List.getElem?_set] using h)
  have f81 := r4.free 81
  have f84 := r4.free 84
  have H4 := Lib.hid (And.intro r4 k4)
  have hyb := H3.out.2.2
  clear r4 k4 e4 hP4 hyb y1' c2' g2' h3n e5 e6
  go_region
  have hyl : w2.heap.size ≤ yy := Nat.le_of_eq H3.out.2.2
  have r5 := (H4.out.1.set 81 (.slice A1 300 c1)).set 84 (.slice A2 6 c2)
  have k5 := ((H4.out.2.setCell ⟨yy, 81, none⟩ (.slice A1 300 c1) (.inr hyl)).setCell ⟨yy, 84, none⟩ (.slice A2 6 c2) (.inr hyl)).drew
  have e5 : (P4.toArray.setIfInBounds 81 (.slice A1 300 c1)).setIfInBounds 84 (.slice A2 6 c2) = Y.toArray := by rw [← HY.out.2.2.2.1, ← HP4.out]; simp
  rw [e5] at r5
  replace r5 := ((keepBut.refl [] _).drew).row r5 (by simp)
  generalize ((w4.setCell ⟨yy, 81, none⟩ (.slice A1 300 c1)).setCell ⟨yy, 84, none⟩ (.slice A2 6 c2)).drew = w6 at r5 k5 ⊢
  have rd := k5.row HR.out.2.1 (by simp)
  have HT := Lib.hid (rd.there (o := 0) (n := 87) (by rw [List.size_toArray, HR.out.2.2.2.1]; decide))
  have H6 := Lib.hid (And.intro r5 (And.intro rd k5))
  clear r5 rd k5 e5 c81 c84 f81 f84 hyl
  go_wp2_with (first
    | (refine wpList_load_mid rfl 44 (.tmp 7) rfl yy 0 rfl Y _ H6.out.1.rangeAll Tryd.underlying44 rfl (by rw [HY.out.2.1]; exact info_pkS) ?_)
    | (refine wpList_store_mid rfl 44 (.tmp 4) (.tmp 97) rfl dd 0 Y.toArray rfl rfl (by rw [List.size_toArray, HY.out.2.1]; exact HT.out) (by rw [List.size_toArray, HY.out.2.1]; exact info_pkS) (by simpa using HY.out.2.2.1) ?_))
  have r9 := set0 H6.out.2.1 (show Y.length = Z.length by rw [HY.out.2.1, HR.out.2.2.2.1])
  refine bodyPost_ret (results_cell_row rfl _ _ dd 44 _ (0, 0) _ rfl r9 Tryd.underlying44 rfl (by rw [List.size_toArray, HY.out.2.1]; exact info_pkS)) rfl ?_
  have KF : keepBut [dd] w2 (w6.setCells dd 0 Y) := (H6.out.2.2.more (T := [dd]) (by simp)).setL (.inl (by simp))
  refine ⟨_, _, _, _, _, by rw [HY.out.1], (HY.out.2.2.2.2.keep HR.out.2.2.1 (by simp)).keep KF (fun y hy hm => ?_), HR.out.2.2.1.then KF (fun y hy => .inr ?_)⟩
  · have h1 := HGO.out y hy
    have h2 := HS.out
    simp only [List.mem_singleton] at hm
    omega
  · have h2 := HS.out
    simp only [List.mem_singleton] at hy
    omega
set_option maxHeartbeats 4000000 in
theorem packet_other8 (mb : Nat) (s : SS) (sv sev : Value) (SF : List Nat) (G : List Nat) (d : DO) (cv ev xe xa xc xv xb : Value) (w : World) (hM : isM w mb s sv sev SF) (hb : 0 ≤ s.client ∧ s.client ≤ 2) (hd : doV w G d cv ev xe xa xc xv xb) (hG : ∀ y ∈ G, y < w.heap.size) (hk5 : d.kind % 8 ≠ 5) (hk6 : d.kind % 8 ≠ 6) (hl1 : 300 < d.p.ans.env.length) (hl2 : 6 < d.p.conf.chain.length) (h3n : ¬ 0 < d.n.tmod 3) :
    Calls Tryd.prog 32 #[.pointer (some ⟨mb, 0, none⟩), .agg (doL d cv ev xe xa xc xv xb).toArray] w (pktPost G (d.pkt7 s) w) := by
  have hXl : (doL d cv ev xe xa xc xv xb).length = 127 := doL_len hd.r.1 hd.p.rn hd.p.an
  have x0 : (doL d cv ev xe xa xc xv xb).toArray[0]? = some (.int .i64 d.kind) := rfl
  have x1 : (doL d cv ev xe xa xc xv xb).toArray[1]? = some (.int .i64 d.n) := rfl
  have x2 : (doL d cv ev xe xa xc xv xb).toArray[2]? = some cv := rfl
  have x39 : (doL d cv ev xe xa xc xv xb).toArray[39]? = some ev := doL_req d cv ev xe xa xc xv xb 36 ev (by have := rqL_env (ev := ev) hd.r.1; simpa using this)
  have xp : ∀ j v, (pkL d.p xe xa xc xv xb)[j]? = some v → (doL d cv ev xe xa xc xv xb).toArray[40 + j]? = some v := doL_pk hd.r.1
  obtain ⟨X, hX⟩ : ∃ X, doL d cv ev xe xa xc xv xb = X := ⟨_, rfl⟩
  rw [hX] at hXl x0 x1 x2 x39 xp ⊢
  obtain ⟨Z, hZ⟩ : ∃ Z, pkL pkZero nilV nilV nilV nilV nilV = Z := ⟨_, rfl⟩
  have hzv := zv_pk
  have hzl := pkZ_len
  rw [hZ] at hzv hzl
  have k1 := (keepBut.refl [] w).alloc (.cells X.toArray 46)
  have r1 := rowAt.new w 46 X.toArray
  have hs1 : (w.alloc (.cells X.toArray 46)).heap.size = w.heap.size + 1 := World.size_alloc ..
  obtain ⟨w1, hw1⟩ : ∃ w1, w.alloc (.cells X.toArray 46) = w1 := ⟨_, rfl⟩
  rw [hw1] at k1 r1 hs1
  have k2 := (keepBut.refl [] w1).alloc (.cells Z.toArray 44)
  have r2 := rowAt.new w1 44 Z.toArray
  obtain ⟨w2, hw2⟩ : ∃ w2, w1.alloc (.cells Z.toArray 44) = w2 := ⟨_, rfl⟩
  rw [hw2] at k2 r2
  have r1' := k2.row r1 (by simp)
  have k12 := k1.then k2 (by simp)
  obtain ⟨b, hbb⟩ : ∃ b, w.heap.size = b := ⟨_, rfl⟩
  obtain ⟨dd, hdd⟩ : ∃ d, w1.heap.size = d := ⟨_, rfl⟩
  rw [hbb] at r1'
  rw [hdd] at r2
  have hmw := hM.row.lt
  have hbd : b ≠ dd ∧ mb ≠ dd ∧ mb ≠ b := by omega
  have HS := Lib.hid (And.intro hbb (And.intro hdd (And.intro hs1 hmw)))
  have hM2 := hM.over k12
  have z0 := hM2.cells.1
  have y0 : w2.cell? ⟨b, 0, none⟩ = some (.int .i64 d.kind) := (r1'.cell 0).trans x0
  have y1 : w2.cell? ⟨b, 1, none⟩ = some (.int .i64 d.n) := (r1'.cell 1).trans x1
  have HP := Lib.hid (show ∀ w', keepBut [dd] w2 w' → w'.cell? ⟨b, 1, none⟩ = some (.int .i64 d.n) ∧ w'.cell? ⟨b, 2, none⟩ = some cv ∧ w'.cell? ⟨b, 39, none⟩ = some ev ∧ w'.cell? ⟨mb, 0, none⟩ = some (.int .i64 s.client) ∧ w'.cell? ⟨mb, 48, none⟩ = some (.int .i64 s.last) from fun w' hk => by
    have q := hM2.keep hk (by simpa using hbd.2.1) (fun y hy hm => by have h1 := (hM.far y hy).1; simp only [List.mem_singleton] at hm; omega)
    exact ⟨((hk.row r1' (by simpa using hbd.1)).cell 1).trans x1, ((hk.row r1' (by simpa using hbd.1)).cell 2).trans x2, ((hk.row r1' (by simpa using hbd.1)).cell 39).trans x39, q.cells.1, q.cells.2.2.2.2.2.2.2.2.2.2.2⟩)
  have HD := Lib.hid (And.intro hd hX)
  have HW := Lib.hid (And.intro hw1 (And.intro hw2 hzv))
  have HR := Lib.hid (And.intro r1' (And.intro r2 (And.intro k12 (And.intro hzl hXl))))
  have HXP := Lib.hid xp
  have HGO := Lib.hid hG
  obtain ⟨hb1, hb2⟩ := hb
  have hwr : IntKind.i64.wrap (20 + s.client) = 20 + s.client := by rw [IntKind.wrap_i64]; omega
  have HBK := Lib.hid (fun W => bring_any d.kind 8 hd.k.1 hd.k.2 (by decide) (by decide) W)
  have HB3 := Lib.hid (fun W => bring_any d.n 3 hd.n.1 hd.n.2 (by decide) (by decide) W)
  have HB9 := Lib.hid (fun W => bring_any d.n 9 hd.n.1 hd.n.2 (by decide) (by decide) W)
  have HB7 := Lib.hid (fun W => bring_any d.n 7 hd.n.1 hd.n.2 (by decide) (by decide) W)
  clear k1 r1 k2 r2 hw1 hw2 hzv hzl hs1 hX r1' k12 hXl x0 x1 x2 x39 xp hM hmw hbd hM2 hZ hG
  have e5 : (d.kind % 8 == 5) = false := by simpa using hk5
  have e6 : (d.kind % 8 == 6) = false := by simpa using hk6
  obtain ⟨kk, hkk⟩ : ∃ k, d.kind % 8 = k := ⟨_, rfl⟩
  rw [hkk] at e5 e6 HBK
  have hpv := hd.p
  obtain ⟨A1, c1, g1, rfl, a2, a3, _, _⟩ := hd.p.ae
  obtain ⟨A2, c2, g2, rfl, b2, b3, _, _⟩ := hd.p.cc
  have hae := hd.p.ae
  have hcc := hd.p.cc
  obtain ⟨m1, hm1⟩ : ∃ m, d.p.ans.env.length = m := ⟨_, rfl⟩
  obtain ⟨m2, hm2⟩ : ∃ m, d.p.conf.chain.length = m := ⟨_, rfl⟩
  rw [hm1] at a2 hae
  rw [hm2] at b2 hcc
  have hmx1 : m1 ≤ 9223372036854775807 := by unfold maxLen at a3; omega
  have hmx2 : m2 ≤ 9223372036854775807 := by unfold maxLen at b3; omega
  have hlen1 : 300 < m1 := by rw [hm1] at hl1; exact hl1
  have hlen2 : 6 < m2 := by rw [hm2] at hl2; exact hl2
  have hKc1 : (300 : Nat) ≤ c1 := by omega
  have hKc2 : (6 : Nat) ≤ c2 := by omega
  have q1 : bytesV w G (.slice A1 300 c1) (d.p.ans.env.take 300) := by have h := hae.cut (k := 300) (by omega); rwa [show d.p.ans.env.take 300 = d.p.ans.env.take 300 from rfl] at h
  have q2 : intsV w G (.slice A2 6 c2) (d.p.conf.chain.take 6) := by have h := hcc.cut (k := 6) (by omega); rwa [show d.p.conf.chain.take 6 = d.p.conf.chain.take 6 from rfl] at h
  have hval : pkV w G (d.pkt7 s) xe (.slice A1 300 c1) (.slice A2 6 c2) xv xb := ⟨hpv.rn, hpv.an, hpv.re, q1, q2, hpv.vs, hpv.bs⟩
  obtain ⟨PX, hPX⟩ : ∃ P, pkL d.p xe (.slice A1 d.p.ans.env.length c1) (.slice A2 d.p.conf.chain.length c2) xv xb = P := ⟨_, rfl⟩
  have hPl : PX.length = 87 := by rw [← hPX]; exact pkL_len hpv.rn hpv.an
  have hPo : ∀ u ∈ PX, u.oneCell' = true := by rw [← hPX]; exact pkL_one hpv.re.one hpv.ae.one hpv.cc.one hpv.vs.one hpv.bs.one
  have p81 : PX.toArray[81]? = some (.slice A1 m1 c1) := by rw [← hPX, hm1]; exact pkL_ans hpv.rn 37 _ (by have := anL_env (ev := .slice A1 m1 c1) hpv.an; simpa using this)
  have p84 : PX.toArray[84]? = some (.slice A2 m2 c2) := by rw [← hPX, hm2]; exact pkL_tail hpv.rn hpv.an 2 _ rfl
  have p2 : PX.toArray[2]? = some (.int .i64 d.p.dst) := by rw [← hPX]; rfl
  obtain ⟨Y, hYY⟩ : ∃ Y, pkL (d.pkt7 s) xe (.slice A1 300 c1) (.slice A2 6 c2) xv xb = Y := ⟨_, rfl⟩
  have hYl : Y.length = 87 := by rw [← hYY]; exact pkL_len hpv.rn hpv.an
  have hYo : ∀ u ∈ Y, u.oneCell' = true := by rw [← hYY]; exact pkL_one hval.re.one hval.ae.one hval.cc.one hval.vs.one hval.bs.one
  have hset : (((PX.set 2 (.int .i64 d.p.dst)).set 81 (.slice A1 300 c1)).set 84 (.slice A2 6 c2)) = Y := by
    rw [← hPX, ← hYY]
    rw [show (pkL d.p xe (.slice A1 d.p.ans.env.length c1) (.slice A2 d.p.conf.chain.length c2) xv xb).set 2 (.int .i64 d.p.dst) = pkL ⟨d.p.kind, d.p.frm, d.p.dst, d.p.num, d.p.seq, d.p.ballot, d.p.ready, d.p.req, d.p.ans, d.p.conf, d.p.votes, d.p.bytes⟩ xe (.slice A1 d.p.ans.env.length c1) (.slice A2 d.p.conf.chain.length c2) xv xb from rfl]
    rw [pkL_set81 (p := ⟨d.p.kind, d.p.frm, d.p.dst, d.p.num, d.p.seq, d.p.ballot, d.p.ready, d.p.req, d.p.ans, d.p.conf, d.p.votes, d.p.bytes⟩) hpv.rn hpv.an, pkL_set84 (p := ⟨d.p.kind, d.p.frm, d.p.dst, d.p.num, d.p.seq, d.p.ballot, d.p.ready, d.p.req, d.p.ans, d.p.conf, d.p.votes, d.p.bytes⟩) hpv.rn hpv.an]
    unfold DO.pkt7
    rw [if_neg h3n]
    rfl
  have rX := HR.out.1.range (o := 40) (fun j v hv => HXP.out j v (by rw [hPX]; exact hv))
  have HY := Lib.hid (And.intro hYY (And.intro hYl (And.intro hYo (And.intro hset hval))))
  have HX := Lib.hid (And.intro hPl (And.intro hPo (And.intro p81 (And.intro p84 (And.intro p2 rX)))))
  clear hk5 hk6 hkk hpv hae hcc hm1 hm2 hl1 hl2 q1 q2 hval hPX hPl hPo p81 p84 p2 hYY hYl hYo hset rX hd a3 b3
  go_enter Tryd.func32, Tryd.ntmps32
  go_upto_region 8 with (first
    | (with_reducible refine wpList_box_to _ _ rfl 46 (.tmp 1) rfl _ rfl HW.out.1 ?_)
    | (with_reducible refine wpList_alloc_to _ _ rfl 44 rfl _ HW.out.2.2 HW.out.2.1 ?_)
    | (go_at_call 16; (with_reducible refine (HBK.out _).mono ?_); rintro e w' ⟨rfl, rfl⟩))
  try simp only [hbb, hdd]
  clear y0 z0
  have hs3 := storedP (w := w2) (t := 44) (Z := Z) (X := PX) (by rw [HX.out.1, HR.out.2.2.2.1])
  obtain ⟨yy, hyy⟩ : ∃ y, w2.heap.size = y := ⟨_, rfl⟩
  have HTh := Lib.hid (there_newP (w := w2) (t := 44) (Z := Z) (X := PX) (by rw [HX.out.1, HR.out.2.2.2.1]))
  rw [hyy] at HTh
  go_upto_region 9 with (first
    | (refine wpList_load_mid rfl 44 (.tmp 67) rfl b 40 rfl PX _ HX.out.2.2.2.2.2 Tryd.underlying44 rfl (by rw [HX.out.1]; exact info_pkS) ?_)
    | (with_reducible refine wpList_alloc_to _ _ rfl 44 rfl _ HW.out.2.2 rfl ?_; try simp only [hyy])
    | (refine wpList_store_mid rfl 44 (.tmp 7) (.tmp 68) rfl yy 0 PX.toArray rfl rfl HTh.out (by rw [List.size_toArray, HX.out.1]; exact info_pkS) (by simpa using HX.out.2.1) ?_))
  rw [hyy] at hs3
  generalize (w2.alloc (.cells Z.toArray 44)).setCells yy 0 PX = w3 at hs3 ⊢
  obtain ⟨r3, k3⟩ := hs3
  have y1' : w3.cell? ⟨b, 1, none⟩ = some (.int .i64 d.n) := ((k3.row HR.out.1 (by simp)).cell 1).trans ((HR.out.1.cell 1).symm.trans y1)
  have c2' := (r3.cell 2).trans HX.out.2.2.2.2.1
  have g2' := r3.free 2
  have H3 := Lib.hid (And.intro r3 (And.intro k3 hyy))
  clear r3 k3 y1 hyy HTh
  go_upto_region 11 with fail
  have r4 : rowAt w3 yy 44 (PX.set 2 (.int .i64 d.p.dst)).toArray := by
    have e : PX.set 2 (.int .i64 d.p.dst) = PX := set_same (by have h := HX.out.2.2.2.2.1; simpa using h)
    rw [e]; exact H3.out.1
  have k4 := H3.out.2.1
  generalize w3 = w4 at r4 k4 ⊢
  have e4 : (PX.toArray.setIfInBounds 2 (.int .i64 d.p.dst)) = (PX.set 2 (.int .i64 d.p.dst)).toArray := by simp
  try rw [e4] at r4
  obtain ⟨P4, hP4⟩ : ∃ P, PX.set 2 (.int .i64 d.p.dst) = P := ⟨_, rfl⟩
  have HP4 := Lib.hid hP4
  rw [hP4] at r4
  have c81 : w4.cell? ⟨yy, 81, none⟩ = some (.slice A1 m1 c1) := (r4.cell 81).trans (by rw [← hP4]; have h := HX.out.2.2.1; simpa [List.getElem?_set] using h)
  have c84 : w4.cell? ⟨yy, 84, none⟩ = some (.slice A2 m2 c2) := (r4.cell 84).trans (by rw [← hP4]; have h := HX.out.2.2.2.1; simpa [List.getElem?_set] using h)
  have f81 := r4.free 81
  have f84 := r4.free 84
  have H4 := Lib.hid (And.intro r4 k4)
  have hyb := H3.out.2.2
  clear r4 k4 e4 hP4 hyb y1' c2' g2' h3n e5 e6
  go_region
  have hyl : w2.heap.size ≤ yy := Nat.le_of_eq H3.out.2.2
  have r5 := (H4.out.1.set 81 (.slice A1 300 c1)).set 84 (.slice A2 6 c2)
  have k5 := ((H4.out.2.setCell ⟨yy, 81, none⟩ (.slice A1 300 c1) (.inr hyl)).setCell ⟨yy, 84, none⟩ (.slice A2 6 c2) (.inr hyl)).drew
  have e5 : (P4.toArray.setIfInBounds 81 (.slice A1 300 c1)).setIfInBounds 84 (.slice A2 6 c2) = Y.toArray := by rw [← HY.out.2.2.2.1, ← HP4.out]; simp
  rw [e5] at r5
  replace r5 := ((keepBut.refl [] _).drew).row r5 (by simp)
  generalize ((w4.setCell ⟨yy, 81, none⟩ (.slice A1 300 c1)).setCell ⟨yy, 84, none⟩ (.slice A2 6 c2)).drew = w6 at r5 k5 ⊢
  have rd := k5.row HR.out.2.1 (by simp)
  have HT := Lib.hid (rd.there (o := 0) (n := 87) (by rw [List.size_toArray, HR.out.2.2.2.1]; decide))
  have H6 := Lib.hid (And.intro r5 (And.intro rd k5))
  clear r5 rd k5 e5 c81 c84 f81 f84 hyl
  go_wp2_with (first
    | (refine wpList_load_mid rfl 44 (.tmp 7) rfl yy 0 rfl Y _ H6.out.1.rangeAll Tryd.underlying44 rfl (by rw [HY.out.2.1]; exact info_pkS) ?_)
    | (refine wpList_store_mid rfl 44 (.tmp 4) (.tmp 97) rfl dd 0 Y.toArray rfl rfl (by rw [List.size_toArray, HY.out.2.1]; exact HT.out) (by rw [List.size_toArray, HY.out.2.1]; exact info_pkS) (by simpa using HY.out.2.2.1) ?_))
  have r9 := set0 H6.out.2.1 (show Y.length = Z.length by rw [HY.out.2.1, HR.out.2.2.2.1])
  refine bodyPost_ret (results_cell_row rfl _ _ dd 44 _ (0, 0) _ rfl r9 Tryd.underlying44 rfl (by rw [List.size_toArray, HY.out.2.1]; exact info_pkS)) rfl ?_
  have KF : keepBut [dd] w2 (w6.setCells dd 0 Y) := (H6.out.2.2.more (T := [dd]) (by simp)).setL (.inl (by simp))
  refine ⟨_, _, _, _, _, by rw [HY.out.1], (HY.out.2.2.2.2.keep HR.out.2.2.1 (by simp)).keep KF (fun y hy hm => ?_), HR.out.2.2.1.then KF (fun y hy => .inr ?_)⟩
  · have h1 := HGO.out y hy
    have h2 := HS.out
    simp only [List.mem_singleton] at hm
    omega
  · have h2 := HS.out
    simp only [List.mem_singleton] at hy
    omega
end Go.Proofs.YtkpmlcgbffdloaaDoor
