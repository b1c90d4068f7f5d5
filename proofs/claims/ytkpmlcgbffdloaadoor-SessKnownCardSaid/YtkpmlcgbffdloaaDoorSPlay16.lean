/-
  SESSPLAYS, 16: the law's packet: an answer.
-/
import Derived.Test.YtkpmlcgbffdloaaDoorSPlay15
namespace Go.Proofs.YtkpmlcgbffdloaaDoor
open Go.RowKit
set_option linter.unusedVariables false
set_option maxRecDepth 100000
set_option linter.unusedSimpArgs false

set_option maxHeartbeats 4000000 in
theorem packet_ans1 (mb : Nat) (s : SS) (sv sev : Value) (SF : List Nat) (G : List Nat) (d : DO) (cv ev xe xa xc xv xb : Value) (w : World) (hM : isM w mb s sv sev SF) (hb : 0 ≤ s.client ∧ s.client ≤ 2) (hd : doV w G d cv ev xe xa xc xv xb) (hG : ∀ y ∈ G, y < w.heap.size) (hk6 : d.kind % 8 = 6) (hl : d.r.env.length ≤ 300) :
    Calls Tryd.prog 32 #[.pointer (some ⟨mb, 0, none⟩), .agg (doL d cv ev xe xa xc xv xb).toArray] w (pktPost G (d.pkt6 s) w) := by
  have hXl : (doL d cv ev xe xa xc xv xb).length = 127 := doL_len hd.r.1 hd.p.rn hd.p.an
  have x0 : (doL d cv ev xe xa xc xv xb).toArray[0]? = some (.int .i64 d.kind) := rfl
  have x1 : (doL d cv ev xe xa xc xv xb).toArray[1]? = some (.int .i64 d.n) := rfl
  have x2 : (doL d cv ev xe xa xc xv xb).toArray[2]? = some cv := rfl
  have x39 : (doL d cv ev xe xa xc xv xb).toArray[39]? = some ev := doL_req d cv ev xe xa xc xv xb 36 ev (by have := rqL_env (ev := ev) hd.r.1; simpa using this)
  have xp : ∀ j v, (pkL d.p xe xa xc xv xb)[j]? = some v → (doL d cv ev xe xa xc xv xb).toArray[40 + j]? = some v := doL_pk hd.r.1
  obtain ⟨X, hX⟩ : ∃ X, doL d cv ev xe xa xc xv xb = X := ⟨_, rfl⟩
  rw [hX] at hXl x0 x1 x2 x39 xp ⊢
  obtain ⟨Z, hZ⟩ : ∃ Z, pkL pkZero nilV nilV nilV nilV nilV = Z := ⟨_, rfl⟩
  have hzv := zv_pk
  have hzl := pkZ_len
  rw [hZ] at hzv hzl
  have k1 := (keepBut.refl [] w).alloc (.cells X.toArray 46)
  have r1 := rowAt.new w 46 X.toArray
  have hs1 : (w.alloc (.cells X.toArray 46)).heap.size = w.heap.size + 1 := World.size_alloc ..
  obtain ⟨w1, hw1⟩ : ∃ w1, w.alloc (.cells X.toArray 46) = w1 := ⟨_, rfl⟩
  rw [hw1] at k1 r1 hs1
  have k2 := (keepBut.refl [] w1).alloc (.cells Z.toArray 44)
  have r2 := rowAt.new w1 44 Z.toArray
  obtain ⟨w2, hw2⟩ : ∃ w2, w1.alloc (.cells Z.toArray 44) = w2 := ⟨_, rfl⟩
  rw [hw2] at k2 r2
  have r1' := k2.row r1 (by simp)
  have k12 := k1.then k2 (by simp)
  obtain ⟨b, hbb⟩ : ∃ b, w.heap.size = b := ⟨_, rfl⟩
  obtain ⟨dd, hdd⟩ : ∃ d, w1.heap.size = d := ⟨_, rfl⟩
  rw [hbb] at r1'
  rw [hdd] at r2
  have hmw := hM.row.lt
  have hbd : b ≠ dd ∧ mb ≠ dd ∧ mb ≠ b := by omega
  have HS := Lib.hid (And.intro hbb (And.intro hdd (And.intro hs1 hmw)))
  have hM2 := hM.over k12
  have z0 := hM2.cells.1
  have y0 : w2.cell? ⟨b, 0, none⟩ = some (.int .i64 d.kind) := (r1'.cell 0).trans x0
  have y1 : w2.cell? ⟨b, 1, none⟩ = some (.int .i64 d.n) := (r1'.cell 1).trans x1
  have HP := Lib.hid (show ∀ w', keepBut [dd] w2 w' → w'.cell? ⟨b, 1, none⟩ = some (.int .i64 d.n) ∧ w'.cell? ⟨b, 2, none⟩ = some cv ∧ w'.cell? ⟨b, 39, none⟩ = some ev ∧ w'.cell? ⟨mb, 0, none⟩ = some (.int .i64 s.client) ∧ w'.cell? ⟨mb, 48, none⟩ = some (.int .i64 s.last) from fun w' hk => by
    have q := hM2.keep hk (by simpa using hbd.2.1) (fun y hy hm => by have h1 := (hM.far y hy).1; simp only [List.mem_singleton] at hm; omega)
    exact ⟨((hk.row r1' (by simpa using hbd.1)).cell 1).trans x1, ((hk.row r1' (by simpa using hbd.1)).cell 2).trans x2, ((hk.row r1' (by simpa using hbd.1)).cell 39).trans x39, q.cells.1, q.cells.2.2.2.2.2.2.2.2.2.2.2⟩)
  have HD := Lib.hid (And.intro hd hX)
  have HW := Lib.hid (And.intro hw1 (And.intro hw2 hzv))
  have HR := Lib.hid (And.intro r1' (And.intro r2 (And.intro k12 (And.intro hzl hXl))))
  have HXP := Lib.hid xp
  have HGO := Lib.hid hG
  obtain ⟨hb1, hb2⟩ := hb
  have hwr : IntKind.i64.wrap (20 + s.client) = 20 + s.client := by rw [IntKind.wrap_i64]; omega
  have HBK := Lib.hid (fun W => bring_any d.kind 8 hd.k.1 hd.k.2 (by decide) (by decide) W)
  have HB3 := Lib.hid (fun W => bring_any d.n 3 hd.n.1 hd.n.2 (by decide) (by decide) W)
  have HB9 := Lib.hid (fun W => bring_any d.n 9 hd.n.1 hd.n.2 (by decide) (by decide) W)
  have HB7 := Lib.hid (fun W => bring_any d.n 7 hd.n.1 hd.n.2 (by decide) (by decide) W)
  clear k1 r1 k2 r2 hw1 hw2 hzv hzl hs1 hX r1' k12 hXl x0 x1 x2 x39 xp hM hmw hbd hM2 hZ hG
  have HKK := Lib.hid hk6
  clear hk6
  obtain ⟨hrn, hrb⟩ := hd.r
  have hdv := hrb
  obtain ⟨A, c, g, rfl, h2, h3, h5, h6⟩ := hrb
  obtain ⟨mm, hmm⟩ : ∃ m, d.r.env.length = m := ⟨_, rfl⟩
  rw [hmm] at HP h2 hdv
  rw [hmm] at HD
  have hmx : mm ≤ 9223372036854775807 := by unfold maxLen at h3; omega
  have hlen : mm ≤ 300 := by rw [hmm] at hl; exact hl
  have hKc : (mm : Nat) ≤ c := by omega
  have hQ : bytesV w G (.slice A mm c) (d.r.env.take 300) := by have h := hdv.cut (k := mm) (by omega); rwa [show d.r.env.take mm = d.r.env.take 300 from (by rw [List.take_of_length_le (by omega), List.take_of_length_le (by omega)])] at h
  have HQ := Lib.hid hQ
  have hC := build_ans6 s.client (IntKind.i64.wrap (s.last - IntKind.i64.wrap ((d.n % 7).tdiv 6))) (d.n % 3) d.n A mm c (d.r.env.take 300)
  have hY := build_pkt6 (20 + s.client) s.client (IntKind.i64.wrap (s.last - IntKind.i64.wrap ((d.n % 7).tdiv 6))) (d.n % 3) d.n A mm c (d.r.env.take 300)
  rw [show (⟨s.client, IntKind.i64.wrap (s.last - IntKind.i64.wrap ((d.n % 7).tdiv 6)), d.n % 3, d.n, 0, anZero.name, d.r.env.take 300⟩ : AN) = d.ans6 s from rfl] at hC hY
  rw [show (⟨2, 10, 20 + s.client, 0, 0, 0, false, rqZero, d.ans6 s, cfZero, [], []⟩ : PK) = d.pkt6 s from rfl] at hY
  obtain ⟨C, hCC⟩ : ∃ C, anL (d.ans6 s) (.slice A mm c) = C := ⟨_, rfl⟩
  obtain ⟨Y, hYY⟩ : ∃ Y, pkL (d.pkt6 s) nilV (.slice A mm c) nilV nilV nilV = Y := ⟨_, rfl⟩
  rw [hCC] at hC hY
  rw [hYY] at hY
  have hYl : Y.length = 87 := by rw [← hYY]; exact pkL_len rqZero_name anZero_name
  have hYo : ∀ u ∈ Y, u.oneCell' = true := by rw [← hYY]; exact pkL_one rfl hQ.one rfl rfl rfl
  have hCl : C.length = 38 := by rw [← hCC]; exact anL_len anZero_name
  have hCo : ∀ u ∈ C, u.oneCell' = true := by rw [← hCC]; exact anL_one _ hQ.one
  have hYr := run_build (P := Tryd.prog)
  have HY := Lib.hid (And.intro hYY (And.intro hYl (And.intro hYo (And.intro hC hY))))
  have HC := Lib.hid (And.intro hCl hCo)
  obtain ⟨ZA, hZA⟩ : ∃ ZA, anL anZero nilV = ZA := ⟨_, rfl⟩
  have HZA := Lib.hid (show (Tryd.prog.info? 39).bind (·.zero) = some (.agg ZA.toArray) ∧ ZA.length = 38 by rw [← hZA]; exact ⟨zv_an, anZ_len⟩)
  clear hl hdv h5 h6 hmm hQ hC hY hCC hYY hYl hYo hd hCl hCo hZA hrn hYr
  go_enter Tryd.func32, Tryd.ntmps32
  go_upto_region 6 with (first
    | (with_reducible refine wpList_box_to _ _ rfl 46 (.tmp 1) rfl _ rfl HW.out.1 ?_)
    | (with_reducible refine wpList_alloc_to _ _ rfl 44 rfl _ HW.out.2.2 HW.out.2.1 ?_)
    | (go_at_call 16; (with_reducible refine (HBK.out _).mono ?_); rintro e w' ⟨rfl, rfl⟩; rw [HKK.out]))
  try simp only [hbb, hdd]
  clear y0 y1 z0
  go_cut [6] (fun v6 wx => ∃ aa : Nat, v6 = .pointer (some ⟨aa, 0, none⟩) ∧ rowAt wx aa 39 C.toArray ∧ keepBut [] w2 wx)
  case first =>
    refine wp_region_held_drew (S := keepBut [] w2) (by kernel_rfl) ((keepBut.refl [] w2).drew) (fun _ => ?_)
    have kW := (keepBut.refl [] w2).drew
    obtain ⟨W0, hW0⟩ : ∃ W, w2.drew = W := ⟨_, rfl⟩
    rw [hW0] at kW ⊢
    clear hW0
    refine wpAnyH_take (i := 0) (oi := ⟨_, _, _, _, _, _⟩) (v := ?_) rfl (by kernel_rfl) (by kernel_rfl) (by kernel_rfl) (fun _ _ _ h => h) (Or.inl ⟨by rfl, ?_⟩) kW ?_
    rotate_left
    · intro w' hSw; clear hSw; (go_simp; try with_reducible rfl)
    try simp only [Act.put, List.setIfInBounds_toArray, List.set_cons_zero, List.set_cons_succ]
    refine wpAnyH_take (i := 1) (oi := ⟨_, _, _, _, _, _⟩) (v := ?_) rfl (by kernel_rfl) (by kernel_rfl) (by kernel_rfl) (fun _ _ _ h => h) (Or.inl ⟨by rfl, ?_⟩) kW ?_
    rotate_left
    · intro w' hSw; clear hSw; (go_simp; try with_reducible rfl)
    try simp only [Act.put, List.setIfInBounds_toArray, List.set_cons_zero, List.set_cons_succ]
    refine wpAnyH_take (i := 2) (oi := ⟨_, _, _, _, _, _⟩) (v := ?_) rfl (by kernel_rfl) (by kernel_rfl) (by kernel_rfl) (fun _ _ _ h => h) (Or.inl ⟨by rfl, ?_⟩) kW ?_
    rotate_left
    · intro w' hSw; clear hSw; (go_simp; try with_reducible rfl)
    try simp only [Act.put, List.setIfInBounds_toArray, List.set_cons_zero, List.set_cons_succ]
    refine wpAnyH_take (i := 3) (oi := ⟨_, _, _, _, _, _⟩) (v := ?_) rfl (by kernel_rfl) (by kernel_rfl) (by kernel_rfl) (fun _ _ _ h => h) (Or.inl ⟨by rfl, ?_⟩) kW ?_
    rotate_left
    · intro w' hSw; have xc := (HP.out w' (hSw.more (by simp))).2.2.2.1; clear hSw; (go_simp; try with_reducible rfl)
    try simp only [Act.put, List.setIfInBounds_toArray, List.set_cons_zero, List.set_cons_succ]
    refine wpAnyH_take (i := 4) (oi := ⟨_, _, _, _, _, _⟩) (v := ?_) rfl (by kernel_rfl) (by kernel_rfl) (by kernel_rfl) (fun _ _ _ h => h) (Or.inl ⟨by rfl, ?_⟩) kW ?_
    rotate_left
    · intro w' hSw; clear hSw; (go_simp; try with_reducible rfl)
    try simp only [Act.put, List.setIfInBounds_toArray, List.set_cons_zero, List.set_cons_succ]
    refine wpAnyH_take (i := 5) (oi := ⟨_, _, _, _, _, _⟩) (v := ?_) rfl (by kernel_rfl) (by kernel_rfl) (by kernel_rfl) (fun _ _ _ h => h) (Or.inl ⟨by rfl, ?_⟩) kW ?_
    rotate_left
    · intro w' hSw; clear hSw; (go_simp; try with_reducible rfl)
    try simp only [Act.put, List.setIfInBounds_toArray, List.set_cons_zero, List.set_cons_succ]
    refine wpAnyH_take (i := 6) (oi := ⟨_, _, _, _, _, _⟩) (v := ?_) rfl (by kernel_rfl) (by kernel_rfl) (by kernel_rfl) (fun _ _ _ h => h) (Or.inl ⟨by rfl, ?_⟩) kW ?_
    rotate_left
    · intro w' hSw; clear hSw; (go_simp; try with_reducible rfl)
    try simp only [Act.put, List.setIfInBounds_toArray, List.set_cons_zero, List.set_cons_succ]
    refine wpAnyH_take (i := 7) (oi := ⟨_, _, _, _, _, _⟩) (v := ?_) rfl (by kernel_rfl) (by kernel_rfl) (by kernel_rfl) (fun _ _ _ h => h) (Or.inl ⟨by rfl, ?_⟩) kW ?_
    rotate_left
    · intro w' hSw; have xc := (HP.out w' (hSw.more (by simp))).2.2.2.2; clear hSw; (go_simp; try with_reducible rfl)
    try simp only [Act.put, List.setIfInBounds_toArray, List.set_cons_zero, List.set_cons_succ]
    refine wpAnyH_take (i := 8) (oi := ⟨_, _, _, _, _, _⟩) (v := ?_) rfl (by kernel_rfl) (by kernel_rfl) (by kernel_rfl) (fun _ _ _ h => h) (Or.inl ⟨by rfl, ?_⟩) kW ?_
    rotate_left
    · intro w' hSw; clear hSw; (go_simp; try with_reducible rfl)
    try simp only [Act.put, List.setIfInBounds_toArray, List.set_cons_zero, List.set_cons_succ]
    refine wpAnyH_take (i := 9) (oi := ⟨_, _, _, _, _, _⟩) (v := ?_) rfl (by kernel_rfl) (by kernel_rfl) (by kernel_rfl) (fun _ _ _ h => h) (Or.inl ⟨by rfl, ?_⟩) kW ?_
    rotate_left
    · intro w' hSw; have xc := (HP.out w' (hSw.more (by simp))).1; clear hSw; (go_simp; try with_reducible rfl)
    try simp only [Act.put, List.setIfInBounds_toArray, List.set_cons_zero, List.set_cons_succ]
    refine wpAnyH_take (i := 13) (oi := ⟨_, _, _, _, _, _⟩) (v := ?_) rfl (by kernel_rfl) (by kernel_rfl) (by kernel_rfl) (fun _ _ _ h => h) (Or.inl ⟨by rfl, ?_⟩) kW ?_
    rotate_left
    · intro w' hSw; clear hSw; (go_simp; try with_reducible rfl)
    try simp only [Act.put, List.setIfInBounds_toArray, List.set_cons_zero, List.set_cons_succ]
    refine wpAnyH_take (i := 14) (oi := ⟨_, _, _, _, _, _⟩) (v := ?_) rfl (by kernel_rfl) (by kernel_rfl) (by kernel_rfl) (fun _ _ _ h => h) (Or.inl ⟨by rfl, ?_⟩) kW ?_
    rotate_left
    · intro w' hSw; have xc := (HP.out w' (hSw.more (by simp))).1; clear hSw; (go_simp; try with_reducible rfl)
    try simp only [Act.put, List.setIfInBounds_toArray, List.set_cons_zero, List.set_cons_succ]
    refine wpAnyH_take (i := 16) (oi := ⟨_, _, _, _, _, _⟩) (v := ?_) rfl (by kernel_rfl) (by kernel_rfl) (by kernel_rfl) (fun _ _ _ h => h) (Or.inl ⟨by rfl, ?_⟩) kW ?_
    rotate_left
    · intro w' hSw; clear hSw; (go_simp; try with_reducible rfl)
    try simp only [Act.put, List.setIfInBounds_toArray, List.set_cons_zero, List.set_cons_succ]
    refine wpAnyH_take (i := 17) (oi := ⟨_, _, _, _, _, _⟩) (v := ?_) rfl (by kernel_rfl) (by kernel_rfl) (by kernel_rfl) (fun _ _ _ h => h) (Or.inl ⟨by rfl, ?_⟩) kW ?_
    rotate_left
    · intro w' hSw; have xc := (HP.out w' (hSw.more (by simp))).1; clear hSw; (go_simp; try with_reducible rfl)
    try simp only [Act.put, List.setIfInBounds_toArray, List.set_cons_zero, List.set_cons_succ]
    refine wpAnyH_take (i := 18) (oi := ⟨_, _, _, _, _, _⟩) (v := ?_) rfl (by kernel_rfl) (by kernel_rfl) (by kernel_rfl) (fun _ _ _ h => h) (Or.inl ⟨by rfl, ?_⟩) kW ?_
    rotate_left
    · intro w' hSw; clear hSw; (go_simp; try with_reducible rfl)
    try simp only [Act.put, List.setIfInBounds_toArray, List.set_cons_zero, List.set_cons_succ]
    refine wpAnyH_take (i := 19) (oi := ⟨_, _, _, _, _, _⟩) (v := ?_) rfl (by kernel_rfl) (by kernel_rfl) (by kernel_rfl) (fun _ _ _ h => h) (Or.inl ⟨by rfl, ?_⟩) kW ?_
    rotate_left
    · intro w' hSw; clear hSw; (go_simp; try with_reducible rfl)
    try simp only [Act.put, List.setIfInBounds_toArray, List.set_cons_zero, List.set_cons_succ]
    refine wpAnyH_take (i := 20) (oi := ⟨_, _, _, _, _, _⟩) (v := ?_) rfl (by kernel_rfl) (by kernel_rfl) (by kernel_rfl) (fun _ _ _ h => h) (Or.inl ⟨by rfl, ?_⟩) kW ?_
    rotate_left
    · intro w' hSw; have xc := (HP.out w' (hSw.more (by simp))).2.2.1; clear hSw; (go_simp; try with_reducible rfl)
    try simp only [Act.put, List.setIfInBounds_toArray, List.set_cons_zero, List.set_cons_succ]
    refine wpAnyH_take (i := 21) (oi := ⟨_, _, _, _, _, _⟩) (v := ?_) rfl (by kernel_rfl) (by kernel_rfl) (by kernel_rfl) (fun _ _ _ h => h) (Or.inl ⟨by rfl, ?_⟩) kW ?_
    rotate_left
    · intro w' hSw; clear hSw; (go_simp; try with_reducible rfl)
    try simp only [Act.put, List.setIfInBounds_toArray, List.set_cons_zero, List.set_cons_succ]
    refine wpAnyH_take (i := 22) (oi := ⟨_, _, _, _, _, _⟩) (v := ?_) rfl (by kernel_rfl) (by kernel_rfl) (by kernel_rfl) (fun _ _ _ h => h) (Or.inl ⟨by rfl, ?_⟩) kW ?_
    rotate_left
    · intro w' hSw; clear hSw; (go_simp; try with_reducible rfl)
    try simp only [Act.put, List.setIfInBounds_toArray, List.set_cons_zero, List.set_cons_succ]
    refine wpAnyH_take (i := 23) (oi := ⟨_, _, _, _, _, _⟩) (v := ?_) rfl (by kernel_rfl) (by kernel_rfl) (by kernel_rfl) (fun _ _ _ h => h) (Or.inl ⟨by rfl, ?_⟩) kW ?_
    rotate_left
    · intro w' hSw; have xc := (HP.out w' (hSw.more (by simp))).2.2.1; clear hSw; (go_simp; try with_reducible rfl)
    try simp only [Act.put, List.setIfInBounds_toArray, List.set_cons_zero, List.set_cons_succ]
    refine wpAnyH_take (i := 24) (oi := ⟨_, _, _, _, _, _⟩) (v := ?_) rfl (by kernel_rfl) (by kernel_rfl) (by kernel_rfl) (fun _ _ _ h => h) (Or.inl ⟨by rfl, ?_⟩) kW ?_
    rotate_left
    · intro w' hSw; clear hSw; (go_simp; try with_reducible rfl)
    try simp only [Act.put, List.setIfInBounds_toArray, List.set_cons_zero, List.set_cons_succ]
    refine wpAnyH_take (i := 25) (oi := ⟨_, _, _, _, _, _⟩) (v := .int .i64 (mm : Int)) rfl (by kernel_rfl) (by kernel_rfl) (by kernel_rfl) (fun _ _ _ h => h) (Or.inl ⟨by rfl, ?_⟩) kW ?_
    · intro w' hSw; clear hSw; (go_simp; first | done | with_reducible rfl | (intro _; omega) | omega | (simp; omega))
    try simp only [Act.put, List.setIfInBounds_toArray, List.set_cons_zero, List.set_cons_succ]
    refine wpAnyH_take (i := 26) (oi := ⟨_, _, _, _, _, _⟩) (v := .slice A mm c) rfl (by kernel_rfl) (by kernel_rfl) (by kernel_rfl) (fun _ _ _ h => h) (Or.inl ⟨by rfl, ?_⟩) kW ?_
    · intro w' hSw; clear hSw; (go_simp; first | done | with_reducible rfl | (intro _; omega) | omega | (simp; omega))
    try simp only [Act.put, List.setIfInBounds_toArray, List.set_cons_zero, List.set_cons_succ]
    refine wpAnyH_ready (rs := [10, 28]) (by kernel_rfl) (by simp) ?_
    refine AllReadyH.cons (o := ⟨_, _, _, _, _, _⟩) rfl (fun KK hKK => ?_) (AllReadyH.cons (o := ⟨_, _, _, _, _, _⟩) rfl (fun KK hKK => ?_) AllReadyH.nil)
    · skip
      go_simp
      (with_reducible refine (HB7.out _).mono ?_); rintro e w9 ⟨rfl, rfl⟩
      go_wp2_with fail
      refine hKK.out _ _ kW (fun _ => ?_)
      clear hKK KK
      try simp only [Act.put, List.setIfInBounds_toArray, List.set_cons_zero, List.set_cons_succ]
      refine wpAnyH_take (i := 11) (oi := ⟨_, _, _, _, _, _⟩) (v := ?_) rfl (by kernel_rfl) (by kernel_rfl) (by kernel_rfl) (fun _ _ _ h => h) (Or.inl ⟨by rfl, ?_⟩) kW ?_
      rotate_left
      · intro w' hSw; clear hSw; (go_simp; try with_reducible rfl)
      try simp only [Act.put, List.setIfInBounds_toArray, List.set_cons_zero, List.set_cons_succ]
      refine wpAnyH_take (i := 12) (oi := ⟨_, _, _, _, _, _⟩) (v := ?_) rfl (by kernel_rfl) (by kernel_rfl) (by kernel_rfl) (fun _ _ _ h => h) (Or.inl ⟨by rfl, ?_⟩) kW ?_
      rotate_left
      · intro w' hSw; clear hSw; (go_simp; try with_reducible rfl)
      try simp only [Act.put, List.setIfInBounds_toArray, List.set_cons_zero, List.set_cons_succ]
      refine wpAnyH_ready (rs := [15, 28]) (by kernel_rfl) (by simp) ?_
      refine AllReadyH.cons (o := ⟨_, _, _, _, _, _⟩) rfl (fun KK hKK => ?_) (AllReadyH.cons (o := ⟨_, _, _, _, _, _⟩) rfl (fun KK hKK => ?_) AllReadyH.nil)
      · skip
        go_simp
        (with_reducible refine (HB3.out _).mono ?_); rintro e w9 ⟨rfl, rfl⟩
        go_wp2_with fail
        refine hKK.out _ _ kW (fun _ => ?_)
        clear hKK KK
        try simp only [Act.put, List.setIfInBounds_toArray, List.set_cons_zero, List.set_cons_succ]
        refine wpAnyH_take (i := 27) (oi := ⟨_, _, _, _, _, _⟩) (v := .agg C.toArray) rfl (by kernel_rfl) (by kernel_rfl) (by kernel_rfl) (fun _ _ _ h => h) (yieldsIf_build 39 _ rfl ?_ _ ?_) kW ?_
        · rfl
        · simp only [List.map_toArray, List.map_cons, List.map_nil]
          go_simp
          exact HY.out.2.2.2.1
        try simp only [Act.put, List.setIfInBounds_toArray, List.set_cons_zero, List.set_cons_succ]
        refine wpAnyH_ready (rs := [28]) (by kernel_rfl) (by simp) ?_
        refine AllReadyH.cons (o := ⟨_, _, _, _, _, _⟩) rfl (fun KK hKK => ?_) AllReadyH.nil
        obtain ⟨W1, hW1⟩ : ∃ W, W0.alloc (.cells ZA.toArray 39) = W := ⟨_, rfl⟩
        refine step_alloc_to _ _ rfl 39 rfl _ HZA.out.1 hW1 ?_
        have rW : rowAt W1 W0.heap.size 39 ZA.toArray := by rw [← hW1]; exact rowAt.new _ _ _
        have qW : keepBut [] W0 W1 := by rw [← hW1]; exact (keepBut.refl [] _).alloc _
        obtain ⟨aa, haa⟩ : ∃ a, W0.heap.size = a := ⟨_, rfl⟩
        rw [haa] at rW ⊢
        have hsz := kW.size
        rw [haa] at hsz
        replace kW := kW.then qW (by simp)
        have HA := Lib.hid (And.intro rW hsz)
        clear rW qW hW1 hsz haa
        refine hKK.out _ _ kW (fun _ => ?_)
        clear hKK KK
        try simp only [Act.put, List.setIfInBounds_toArray, List.set_cons_zero, List.set_cons_succ]
        have HT := Lib.hid (HA.out.1.there (o := 0) (n := 38) (by rw [List.size_toArray, HZA.out.2]; decide))
        have k5 : keepBut [] w2 (W1.setCells aa 0 C) := kW.setL (.inr HA.out.2)
        have r5 := set0 HA.out.1 (show C.length = ZA.length by rw [HC.out.1, HZA.out.2])
        refine wpAnyH_ready (rs := [29]) (by kernel_rfl) (by simp) ?_
        refine AllReadyH.cons (o := ⟨_, _, _, _, _, _⟩) rfl (fun KK hKK => ?_) AllReadyH.nil
        refine step_store_mid rfl 39 (.tmp 6) (.tmp 63) rfl aa 0 C.toArray rfl (by rfl) (by rw [List.size_toArray, HC.out.1]; exact HT.out) (by rw [List.size_toArray, HC.out.1]; exact info_anS) (by simpa using HC.out.2) ?_
        refine hKK.out _ _ k5 (fun _ => ?_)
        clear hKK KK
        try simp only [Act.put, List.setIfInBounds_toArray, List.set_cons_zero, List.set_cons_succ]
        refine wpAnyH_done (by kernel_rfl) ?_ _
        go_wp2_with fail
        go_meet
        exact ⟨_, rfl, r5, k5⟩
      · skip
        obtain ⟨W1, hW1⟩ : ∃ W, W0.alloc (.cells ZA.toArray 39) = W := ⟨_, rfl⟩
        refine step_alloc_to _ _ rfl 39 rfl _ HZA.out.1 hW1 ?_
        have rW : rowAt W1 W0.heap.size 39 ZA.toArray := by rw [← hW1]; exact rowAt.new _ _ _
        have qW : keepBut [] W0 W1 := by rw [← hW1]; exact (keepBut.refl [] _).alloc _
        obtain ⟨aa, haa⟩ : ∃ a, W0.heap.size = a := ⟨_, rfl⟩
        rw [haa] at rW ⊢
        have hsz := kW.size
        rw [haa] at hsz
        replace kW := kW.then qW (by simp)
        have HA := Lib.hid (And.intro rW hsz)
        clear rW qW hW1 hsz haa
        refine hKK.out _ _ kW (fun _ => ?_)
        clear hKK KK
        try simp only [Act.put, List.setIfInBounds_toArray, List.set_cons_zero, List.set_cons_succ]
        refine wpAnyH_ready (rs := [15]) (by kernel_rfl) (by simp) ?_
        refine AllReadyH.cons (o := ⟨_, _, _, _, _, _⟩) rfl (fun KK hKK => ?_) AllReadyH.nil
        go_simp
        (with_reducible refine (HB3.out _).mono ?_); rintro e w9 ⟨rfl, rfl⟩
        go_wp2_with fail
        refine hKK.out _ _ kW (fun _ => ?_)
        clear hKK KK
        try simp only [Act.put, List.setIfInBounds_toArray, List.set_cons_zero, List.set_cons_succ]
        refine wpAnyH_take (i := 27) (oi := ⟨_, _, _, _, _, _⟩) (v := .agg C.toArray) rfl (by kernel_rfl) (by kernel_rfl) (by kernel_rfl) (fun _ _ _ h => h) (yieldsIf_build 39 _ rfl ?_ _ ?_) kW ?_
        · rfl
        · simp only [List.map_toArray, List.map_cons, List.map_nil]
          go_simp
          exact HY.out.2.2.2.1
        try simp only [Act.put, List.setIfInBounds_toArray, List.set_cons_zero, List.set_cons_succ]
        have HT := Lib.hid (HA.out.1.there (o := 0) (n := 38) (by rw [List.size_toArray, HZA.out.2]; decide))
        have k5 : keepBut [] w2 (W1.setCells aa 0 C) := kW.setL (.inr HA.out.2)
        have r5 := set0 HA.out.1 (show C.length = ZA.length by rw [HC.out.1, HZA.out.2])
        refine wpAnyH_ready (rs := [29]) (by kernel_rfl) (by simp) ?_
        refine AllReadyH.cons (o := ⟨_, _, _, _, _, _⟩) rfl (fun KK hKK => ?_) AllReadyH.nil
        refine step_store_mid rfl 39 (.tmp 6) (.tmp 63) rfl aa 0 C.toArray rfl (by rfl) (by rw [List.size_toArray, HC.out.1]; exact HT.out) (by rw [List.size_toArray, HC.out.1]; exact info_anS) (by simpa using HC.out.2) ?_
        refine hKK.out _ _ k5 (fun _ => ?_)
        clear hKK KK
        try simp only [Act.put, List.setIfInBounds_toArray, List.set_cons_zero, List.set_cons_succ]
        refine wpAnyH_done (by kernel_rfl) ?_ _
        go_wp2_with fail
        go_meet
        exact ⟨_, rfl, r5, k5⟩
    · skip
      obtain ⟨W1, hW1⟩ : ∃ W, W0.alloc (.cells ZA.toArray 39) = W := ⟨_, rfl⟩
      refine step_alloc_to _ _ rfl 39 rfl _ HZA.out.1 hW1 ?_
      have rW : rowAt W1 W0.heap.size 39 ZA.toArray := by rw [← hW1]; exact rowAt.new _ _ _
      have qW : keepBut [] W0 W1 := by rw [← hW1]; exact (keepBut.refl [] _).alloc _
      obtain ⟨aa, haa⟩ : ∃ a, W0.heap.size = a := ⟨_, rfl⟩
      rw [haa] at rW ⊢
      have hsz := kW.size
      rw [haa] at hsz
      replace kW := kW.then qW (by simp)
      have HA := Lib.hid (And.intro rW hsz)
      clear rW qW hW1 hsz haa
      refine hKK.out _ _ kW (fun _ => ?_)
      clear hKK KK
      try simp only [Act.put, List.setIfInBounds_toArray, List.set_cons_zero, List.set_cons_succ]
      refine wpAnyH_ready (rs := [10]) (by kernel_rfl) (by simp) ?_
      refine AllReadyH.cons (o := ⟨_, _, _, _, _, _⟩) rfl (fun KK hKK => ?_) AllReadyH.nil
      go_simp
      (with_reducible refine (HB7.out _).mono ?_); rintro e w9 ⟨rfl, rfl⟩
      go_wp2_with fail
      refine hKK.out _ _ kW (fun _ => ?_)
      clear hKK KK
      try simp only [Act.put, List.setIfInBounds_toArray, List.set_cons_zero, List.set_cons_succ]
      refine wpAnyH_take (i := 11) (oi := ⟨_, _, _, _, _, _⟩) (v := ?_) rfl (by kernel_rfl) (by kernel_rfl) (by kernel_rfl) (fun _ _ _ h => h) (Or.inl ⟨by rfl, ?_⟩) kW ?_
      rotate_left
      · intro w' hSw; clear hSw; (go_simp; try with_reducible rfl)
      try simp only [Act.put, List.setIfInBounds_toArray, List.set_cons_zero, List.set_cons_succ]
      refine wpAnyH_take (i := 12) (oi := ⟨_, _, _, _, _, _⟩) (v := ?_) rfl (by kernel_rfl) (by kernel_rfl) (by kernel_rfl) (fun _ _ _ h => h) (Or.inl ⟨by rfl, ?_⟩) kW ?_
      rotate_left
      · intro w' hSw; clear hSw; (go_simp; try with_reducible rfl)
      try simp only [Act.put, List.setIfInBounds_toArray, List.set_cons_zero, List.set_cons_succ]
      refine wpAnyH_ready (rs := [15]) (by kernel_rfl) (by simp) ?_
      refine AllReadyH.cons (o := ⟨_, _, _, _, _, _⟩) rfl (fun KK hKK => ?_) AllReadyH.nil
      go_simp
      (with_reducible refine (HB3.out _).mono ?_); rintro e w9 ⟨rfl, rfl⟩
      go_wp2_with fail
      refine hKK.out _ _ kW (fun _ => ?_)
      clear hKK KK
      try simp only [Act.put, List.setIfInBounds_toArray, List.set_cons_zero, List.set_cons_succ]
      refine wpAnyH_take (i := 27) (oi := ⟨_, _, _, _, _, _⟩) (v := .agg C.toArray) rfl (by kernel_rfl) (by kernel_rfl) (by kernel_rfl) (fun _ _ _ h => h) (yieldsIf_build 39 _ rfl ?_ _ ?_) kW ?_
      · rfl
      · simp only [List.map_toArray, List.map_cons, List.map_nil]
        go_simp
        exact HY.out.2.2.2.1
      try simp only [Act.put, List.setIfInBounds_toArray, List.set_cons_zero, List.set_cons_succ]
      have HT := Lib.hid (HA.out.1.there (o := 0) (n := 38) (by rw [List.size_toArray, HZA.out.2]; decide))
      have k5 : keepBut [] w2 (W1.setCells aa 0 C) := kW.setL (.inr HA.out.2)
      have r5 := set0 HA.out.1 (show C.length = ZA.length by rw [HC.out.1, HZA.out.2])
      refine wpAnyH_ready (rs := [29]) (by kernel_rfl) (by simp) ?_
      refine AllReadyH.cons (o := ⟨_, _, _, _, _, _⟩) rfl (fun KK hKK => ?_) AllReadyH.nil
      refine step_store_mid rfl 39 (.tmp 6) (.tmp 63) rfl aa 0 C.toArray rfl (by rfl) (by rw [List.size_toArray, HC.out.1]; exact HT.out) (by rw [List.size_toArray, HC.out.1]; exact info_anS) (by simpa using HC.out.2) ?_
      refine hKK.out _ _ k5 (fun _ => ?_)
      clear hKK KK
      try simp only [Act.put, List.setIfInBounds_toArray, List.set_cons_zero, List.set_cons_succ]
      refine wpAnyH_done (by kernel_rfl) ?_ _
      go_wp2_with fail
      go_meet
      exact ⟨_, rfl, r5, k5⟩
  case rest =>
    obtain ⟨aa, rfl, rA, kA⟩ := hcut
    have rd := kA.row HR.out.2.1 (by simp)
    have HT := Lib.hid (rd.there (o := 0) (n := 87) (by rw [List.size_toArray, HR.out.2.2.2.1]; decide))
    have HRA := Lib.hid (And.intro rA (And.intro rd kA))
    have HB := Lib.hid (run_build wc 44 #[(0, .int .i64 2), (1, .int .i64 10), (2, .int .i64 (20 + s.client)), (8, .agg C.toArray)] _ HY.out.2.2.2.2)
    clear rA rd kA
    go_wp2_with (first
      | (refine wpList_load_mid rfl 39 (.tmp 6) rfl aa 0 rfl C _ HRA.out.1.rangeAll Tryd.underlying39 rfl (by rw [HC.out.1]; exact info_anS) ?_)
      | (refine wpList_build_to _ rfl 44 _ rfl (.agg Y.toArray) #[(0, .int .i64 2), (1, .int .i64 10), (2, .int .i64 (20 + s.client)), (8, .agg C.toArray)] (by simp only [List.map_toArray, List.map_cons, List.map_nil]; rfl) HB.out ?_)
      | (refine wpList_store_mid rfl 44 (.tmp 4) (.tmp 66) rfl dd 0 Y.toArray rfl rfl (by rw [List.size_toArray, HY.out.2.1]; exact HT.out) (by rw [List.size_toArray, HY.out.2.1]; exact info_pkS) (by simpa using HY.out.2.2.1) ?_))
    have r9 := set0 HRA.out.2.1 (show Y.length = Z.length by rw [HY.out.2.1, HR.out.2.2.2.1])
    refine bodyPost_ret (results_cell_row rfl _ _ dd 44 _ (0, 0) _ rfl r9 Tryd.underlying44 rfl (by rw [List.size_toArray, HY.out.2.1]; exact info_pkS)) rfl ?_
    have KF : keepBut [dd] w2 (wc.setCells dd 0 Y) := (HRA.out.2.2.more (T := [dd]) (by simp)).setL (.inl (by simp))
    refine ⟨nilV, .slice A mm c, nilV, nilV, nilV, by rw [HY.out.1], ⟨rqZero_name, anZero_name, bytesV.nil _ _, (HQ.out.keep HR.out.2.2.1 (by simp)).keep KF (fun y hy hm => ?_), intsV.nil _ _, votesV.nil _ _, bytesV.nil _ _⟩, HR.out.2.2.1.then KF (fun y hy => .inr ?_)⟩
    · have h1 := HGO.out y hy
      have h2 := HS.out
      simp only [List.mem_singleton] at hm
      omega
    · have h2 := HS.out
      simp only [List.mem_singleton] at hy
      omega
set_option maxHeartbeats 4000000 in
theorem packet_ans2 (mb : Nat) (s : SS) (sv sev : Value) (SF : List Nat) (G : List Nat) (d : DO) (cv ev xe xa xc xv xb : Value) (w : World) (hM : isM w mb s sv sev SF) (hb : 0 ≤ s.client ∧ s.client ≤ 2) (hd : doV w G d cv ev xe xa xc xv xb) (hG : ∀ y ∈ G, y < w.heap.size) (hk6 : d.kind % 8 = 6) (hl : 300 < d.r.env.length) :
    Calls Tryd.prog 32 #[.pointer (some ⟨mb, 0, none⟩), .agg (doL d cv ev xe xa xc xv xb).toArray] w (pktPost G (d.pkt6 s) w) := by
  have hXl : (doL d cv ev xe xa xc xv xb).length = 127 := doL_len hd.r.1 hd.p.rn hd.p.an
  have x0 : (doL d cv ev xe xa xc xv xb).toArray[0]? = some (.int .i64 d.kind) := rfl
  have x1 : (doL d cv ev xe xa xc xv xb).toArray[1]? = some (.int .i64 d.n) := rfl
  have x2 : (doL d cv ev xe xa xc xv xb).toArray[2]? = some cv := rfl
  have x39 : (doL d cv ev xe xa xc xv xb).toArray[39]? = some ev := doL_req d cv ev xe xa xc xv xb 36 ev (by have := rqL_env (ev := ev) hd.r.1; simpa using this)
  have xp : ∀ j v, (pkL d.p xe xa xc xv xb)[j]? = some v → (doL d cv ev xe xa xc xv xb).toArray[40 + j]? = some v := doL_pk hd.r.1
  obtain ⟨X, hX⟩ : ∃ X, doL d cv ev xe xa xc xv xb = X := ⟨_, rfl⟩
  rw [hX] at hXl x0 x1 x2 x39 xp ⊢
  obtain ⟨Z, hZ⟩ : ∃ Z, pkL pkZero nilV nilV nilV nilV nilV = Z := ⟨_, rfl⟩
  have hzv := zv_pk
  have hzl := pkZ_len
  rw [hZ] at hzv hzl
  have k1 := (keepBut.refl [] w).alloc (.cells X.toArray 46)
  have r1 := rowAt.new w 46 X.toArray
  have hs1 : (w.alloc (.cells X.toArray 46)).heap.size = w.heap.size + 1 := World.size_alloc ..
  obtain ⟨w1, hw1⟩ : ∃ w1, w.alloc (.cells X.toArray 46) = w1 := ⟨_, rfl⟩
  rw [hw1] at k1 r1 hs1
  have k2 := (keepBut.refl [] w1).alloc (.cells Z.toArray 44)
  have r2 := rowAt.new w1 44 Z.toArray
  obtain ⟨w2, hw2⟩ : ∃ w2, w1.alloc (.cells Z.toArray 44) = w2 := ⟨_, rfl⟩
  rw [hw2] at k2 r2
  have r1' := k2.row r1 (by simp)
  have k12 := k1.then k2 (by simp)
  obtain ⟨b, hbb⟩ : ∃ b, w.heap.size = b := ⟨_, rfl⟩
  obtain ⟨dd, hdd⟩ : ∃ d, w1.heap.size = d := ⟨_, rfl⟩
  rw [hbb] at r1'
  rw [hdd] at r2
  have hmw := hM.row.lt
  have hbd : b ≠ dd ∧ mb ≠ dd ∧ mb ≠ b := by omega
  have HS := Lib.hid (And.intro hbb (And.intro hdd (And.intro hs1 hmw)))
  have hM2 := hM.over k12
  have z0 := hM2.cells.1
  have y0 : w2.cell? ⟨b, 0, none⟩ = some (.int .i64 d.kind) := (r1'.cell 0).trans x0
  have y1 : w2.cell? ⟨b, 1, none⟩ = some (.int .i64 d.n) := (r1'.cell 1).trans x1
  have HP := Lib.hid (show ∀ w', keepBut [dd] w2 w' → w'.cell? ⟨b, 1, none⟩ = some (.int .i64 d.n) ∧ w'.cell? ⟨b, 2, none⟩ = some cv ∧ w'.cell? ⟨b, 39, none⟩ = some ev ∧ w'.cell? ⟨mb, 0, none⟩ = some (.int .i64 s.client) ∧ w'.cell? ⟨mb, 48, none⟩ = some (.int .i64 s.last) from fun w' hk => by
    have q := hM2.keep hk (by simpa using hbd.2.1) (fun y hy hm => by have h1 := (hM.far y hy).1; simp only [List.mem_singleton] at hm; omega)
    exact ⟨((hk.row r1' (by simpa using hbd.1)).cell 1).trans x1, ((hk.row r1' (by simpa using hbd.1)).cell 2).trans x2, ((hk.row r1' (by simpa using hbd.1)).cell 39).trans x39, q.cells.1, q.cells.2.2.2.2.2.2.2.2.2.2.2⟩)
  have HD := Lib.hid (And.intro hd hX)
  have HW := Lib.hid (And.intro hw1 (And.intro hw2 hzv))
  have HR := Lib.hid (And.intro r1' (And.intro r2 (And.intro k12 (And.intro hzl hXl))))
  have HXP := Lib.hid xp
  have HGO := Lib.hid hG
  obtain ⟨hb1, hb2⟩ := hb
  have hwr : IntKind.i64.wrap (20 + s.client) = 20 + s.client := by rw [IntKind.wrap_i64]; omega
  have HBK := Lib.hid (fun W => bring_any d.kind 8 hd.k.1 hd.k.2 (by decide) (by decide) W)
  have HB3 := Lib.hid (fun W => bring_any d.n 3 hd.n.1 hd.n.2 (by decide) (by decide) W)
  have HB9 := Lib.hid (fun W => bring_any d.n 9 hd.n.1 hd.n.2 (by decide) (by decide) W)
  have HB7 := Lib.hid (fun W => bring_any d.n 7 hd.n.1 hd.n.2 (by decide) (by decide) W)
  clear k1 r1 k2 r2 hw1 hw2 hzv hzl hs1 hX r1' k12 hXl x0 x1 x2 x39 xp hM hmw hbd hM2 hZ hG
  have HKK := Lib.hid hk6
  clear hk6
  obtain ⟨hrn, hrb⟩ := hd.r
  have hdv := hrb
  obtain ⟨A, c, g, rfl, h2, h3, h5, h6⟩ := hrb
  obtain ⟨mm, hmm⟩ : ∃ m, d.r.env.length = m := ⟨_, rfl⟩
  rw [hmm] at HP h2 hdv
  rw [hmm] at HD
  have hmx : mm ≤ 9223372036854775807 := by unfold maxLen at h3; omega
  have hlen : 300 < mm := by rw [hmm] at hl; exact hl
  have hKc : (300 : Nat) ≤ c := by omega
  have hQ : bytesV w G (.slice A 300 c) (d.r.env.take 300) := by have h := hdv.cut (k := 300) (by omega); rwa [show d.r.env.take 300 = d.r.env.take 300 from rfl] at h
  have HQ := Lib.hid hQ
  have hC := build_ans6 s.client (IntKind.i64.wrap (s.last - IntKind.i64.wrap ((d.n % 7).tdiv 6))) (d.n % 3) d.n A 300 c (d.r.env.take 300)
  have hY := build_pkt6 (20 + s.client) s.client (IntKind.i64.wrap (s.last - IntKind.i64.wrap ((d.n % 7).tdiv 6))) (d.n % 3) d.n A 300 c (d.r.env.take 300)
  rw [show (⟨s.client, IntKind.i64.wrap (s.last - IntKind.i64.wrap ((d.n % 7).tdiv 6)), d.n % 3, d.n, 0, anZero.name, d.r.env.take 300⟩ : AN) = d.ans6 s from rfl] at hC hY
  rw [show (⟨2, 10, 20 + s.client, 0, 0, 0, false, rqZero, d.ans6 s, cfZero, [], []⟩ : PK) = d.pkt6 s from rfl] at hY
  obtain ⟨C, hCC⟩ : ∃ C, anL (d.ans6 s) (.slice A 300 c) = C := ⟨_, rfl⟩
  obtain ⟨Y, hYY⟩ : ∃ Y, pkL (d.pkt6 s) nilV (.slice A 300 c) nilV nilV nilV = Y := ⟨_, rfl⟩
  rw [hCC] at hC hY
  rw [hYY] at hY
  have hYl : Y.length = 87 := by rw [← hYY]; exact pkL_len rqZero_name anZero_name
  have hYo : ∀ u ∈ Y, u.oneCell' = true := by rw [← hYY]; exact pkL_one rfl hQ.one rfl rfl rfl
  have hCl : C.length = 38 := by rw [← hCC]; exact anL_len anZero_name
  have hCo : ∀ u ∈ C, u.oneCell' = true := by rw [← hCC]; exact anL_one _ hQ.one
  have hYr := run_build (P := Tryd.prog)
  have HY := Lib.hid (And.intro hYY (And.intro hYl (And.intro hYo (And.intro hC hY))))
  have HC := Lib.hid (And.intro hCl hCo)
  obtain ⟨ZA, hZA⟩ : ∃ ZA, anL anZero nilV = ZA := ⟨_, rfl⟩
  have HZA := Lib.hid (show (Tryd.prog.info? 39).bind (·.zero) = some (.agg ZA.toArray) ∧ ZA.length = 38 by rw [← hZA]; exact ⟨zv_an, anZ_len⟩)
  clear hl hdv h5 h6 hmm hQ hC hY hCC hYY hYl hYo hd hCl hCo hZA hrn hYr
  go_enter Tryd.func32, Tryd.ntmps32
  go_upto_region 6 with (first
    | (with_reducible refine wpList_box_to _ _ rfl 46 (.tmp 1) rfl _ rfl HW.out.1 ?_)
    | (with_reducible refine wpList_alloc_to _ _ rfl 44 rfl _ HW.out.2.2 HW.out.2.1 ?_)
    | (go_at_call 16; (with_reducible refine (HBK.out _).mono ?_); rintro e w' ⟨rfl, rfl⟩; rw [HKK.out]))
  try simp only [hbb, hdd]
  clear y0 y1 z0
  go_cut [6] (fun v6 wx => ∃ aa : Nat, v6 = .pointer (some ⟨aa, 0, none⟩) ∧ rowAt wx aa 39 C.toArray ∧ keepBut [] w2 wx)
  case first =>
    refine wp_region_held_drew (S := keepBut [] w2) (by kernel_rfl) ((keepBut.refl [] w2).drew) (fun _ => ?_)
    have kW := (keepBut.refl [] w2).drew
    obtain ⟨W0, hW0⟩ : ∃ W, w2.drew = W := ⟨_, rfl⟩
    rw [hW0] at kW ⊢
    clear hW0
    refine wpAnyH_take (i := 0) (oi := ⟨_, _, _, _, _, _⟩) (v := ?_) rfl (by kernel_rfl) (by kernel_rfl) (by kernel_rfl) (fun _ _ _ h => h) (Or.inl ⟨by rfl, ?_⟩) kW ?_
    rotate_left
    · intro w' hSw; clear hSw; (go_simp; try with_reducible rfl)
    try simp only [Act.put, List.setIfInBounds_toArray, List.set_cons_zero, List.set_cons_succ]
    refine wpAnyH_take (i := 1) (oi := ⟨_, _, _, _, _, _⟩) (v := ?_) rfl (by kernel_rfl) (by kernel_rfl) (by kernel_rfl) (fun _ _ _ h => h) (Or.inl ⟨by rfl, ?_⟩) kW ?_
    rotate_left
    · intro w' hSw; clear hSw; (go_simp; try with_reducible rfl)
    try simp only [Act.put, List.setIfInBounds_toArray, List.set_cons_zero, List.set_cons_succ]
    refine wpAnyH_take (i := 2) (oi := ⟨_, _, _, _, _, _⟩) (v := ?_) rfl (by kernel_rfl) (by kernel_rfl) (by kernel_rfl) (fun _ _ _ h => h) (Or.inl ⟨by rfl, ?_⟩) kW ?_
    rotate_left
    · intro w' hSw; clear hSw; (go_simp; try with_reducible rfl)
    try simp only [Act.put, List.setIfInBounds_toArray, List.set_cons_zero, List.set_cons_succ]
    refine wpAnyH_take (i := 3) (oi := ⟨_, _, _, _, _, _⟩) (v := ?_) rfl (by kernel_rfl) (by kernel_rfl) (by kernel_rfl) (fun _ _ _ h => h) (Or.inl ⟨by rfl, ?_⟩) kW ?_
    rotate_left
    · intro w' hSw; have xc := (HP.out w' (hSw.more (by simp))).2.2.2.1; clear hSw; (go_simp; try with_reducible rfl)
    try simp only [Act.put, List.setIfInBounds_toArray, List.set_cons_zero, List.set_cons_succ]
    refine wpAnyH_take (i := 4) (oi := ⟨_, _, _, _, _, _⟩) (v := ?_) rfl (by kernel_rfl) (by kernel_rfl) (by kernel_rfl) (fun _ _ _ h => h) (Or.inl ⟨by rfl, ?_⟩) kW ?_
    rotate_left
    · intro w' hSw; clear hSw; (go_simp; try with_reducible rfl)
    try simp only [Act.put, List.setIfInBounds_toArray, List.set_cons_zero, List.set_cons_succ]
    refine wpAnyH_take (i := 5) (oi := ⟨_, _, _, _, _, _⟩) (v := ?_) rfl (by kernel_rfl) (by kernel_rfl) (by kernel_rfl) (fun _ _ _ h => h) (Or.inl ⟨by rfl, ?_⟩) kW ?_
    rotate_left
    · intro w' hSw; clear hSw; (go_simp; try with_reducible rfl)
    try simp only [Act.put, List.setIfInBounds_toArray, List.set_cons_zero, List.set_cons_succ]
    refine wpAnyH_take (i := 6) (oi := ⟨_, _, _, _, _, _⟩) (v := ?_) rfl (by kernel_rfl) (by kernel_rfl) (by kernel_rfl) (fun _ _ _ h => h) (Or.inl ⟨by rfl, ?_⟩) kW ?_
    rotate_left
    · intro w' hSw; clear hSw; (go_simp; try with_reducible rfl)
    try simp only [Act.put, List.setIfInBounds_toArray, List.set_cons_zero, List.set_cons_succ]
    refine wpAnyH_take (i := 7) (oi := ⟨_, _, _, _, _, _⟩) (v := ?_) rfl (by kernel_rfl) (by kernel_rfl) (by kernel_rfl) (fun _ _ _ h => h) (Or.inl ⟨by rfl, ?_⟩) kW ?_
    rotate_left
    · intro w' hSw; have xc := (HP.out w' (hSw.more (by simp))).2.2.2.2; clear hSw; (go_simp; try with_reducible rfl)
    try simp only [Act.put, List.setIfInBounds_toArray, List.set_cons_zero, List.set_cons_succ]
    refine wpAnyH_take (i := 8) (oi := ⟨_, _, _, _, _, _⟩) (v := ?_) rfl (by kernel_rfl) (by kernel_rfl) (by kernel_rfl) (fun _ _ _ h => h) (Or.inl ⟨by rfl, ?_⟩) kW ?_
    rotate_left
    · intro w' hSw; clear hSw; (go_simp; try with_reducible rfl)
    try simp only [Act.put, List.setIfInBounds_toArray, List.set_cons_zero, List.set_cons_succ]
    refine wpAnyH_take (i := 9) (oi := ⟨_, _, _, _, _, _⟩) (v := ?_) rfl (by kernel_rfl) (by kernel_rfl) (by kernel_rfl) (fun _ _ _ h => h) (Or.inl ⟨by rfl, ?_⟩) kW ?_
    rotate_left
    · intro w' hSw; have xc := (HP.out w' (hSw.more (by simp))).1; clear hSw; (go_simp; try with_reducible rfl)
    try simp only [Act.put, List.setIfInBounds_toArray, List.set_cons_zero, List.set_cons_succ]
    refine wpAnyH_take (i := 13) (oi := ⟨_, _, _, _, _, _⟩) (v := ?_) rfl (by kernel_rfl) (by kernel_rfl) (by kernel_rfl) (fun _ _ _ h => h) (Or.inl ⟨by rfl, ?_⟩) kW ?_
    rotate_left
    · intro w' hSw; clear hSw; (go_simp; try with_reducible rfl)
    try simp only [Act.put, List.setIfInBounds_toArray, List.set_cons_zero, List.set_cons_succ]
    refine wpAnyH_take (i := 14) (oi := ⟨_, _, _, _, _, _⟩) (v := ?_) rfl (by kernel_rfl) (by kernel_rfl) (by kernel_rfl) (fun _ _ _ h => h) (Or.inl ⟨by rfl, ?_⟩) kW ?_
    rotate_left
    · intro w' hSw; have xc := (HP.out w' (hSw.more (by simp))).1; clear hSw; (go_simp; try with_reducible rfl)
    try simp only [Act.put, List.setIfInBounds_toArray, List.set_cons_zero, List.set_cons_succ]
    refine wpAnyH_take (i := 16) (oi := ⟨_, _, _, _, _, _⟩) (v := ?_) rfl (by kernel_rfl) (by kernel_rfl) (by kernel_rfl) (fun _ _ _ h => h) (Or.inl ⟨by rfl, ?_⟩) kW ?_
    rotate_left
    · intro w' hSw; clear hSw; (go_simp; try with_reducible rfl)
    try simp only [Act.put, List.setIfInBounds_toArray, List.set_cons_zero, List.set_cons_succ]
    refine wpAnyH_take (i := 17) (oi := ⟨_, _, _, _, _, _⟩) (v := ?_) rfl (by kernel_rfl) (by kernel_rfl) (by kernel_rfl) (fun _ _ _ h => h) (Or.inl ⟨by rfl, ?_⟩) kW ?_
    rotate_left
    · intro w' hSw; have xc := (HP.out w' (hSw.more (by simp))).1; clear hSw; (go_simp; try with_reducible rfl)
    try simp only [Act.put, List.setIfInBounds_toArray, List.set_cons_zero, List.set_cons_succ]
    refine wpAnyH_take (i := 18) (oi := ⟨_, _, _, _, _, _⟩) (v := ?_) rfl (by kernel_rfl) (by kernel_rfl) (by kernel_rfl) (fun _ _ _ h => h) (Or.inl ⟨by rfl, ?_⟩) kW ?_
    rotate_left
    · intro w' hSw; clear hSw; (go_simp; try with_reducible rfl)
    try simp only [Act.put, List.setIfInBounds_toArray, List.set_cons_zero, List.set_cons_succ]
    refine wpAnyH_take (i := 19) (oi := ⟨_, _, _, _, _, _⟩) (v := ?_) rfl (by kernel_rfl) (by kernel_rfl) (by kernel_rfl) (fun _ _ _ h => h) (Or.inl ⟨by rfl, ?_⟩) kW ?_
    rotate_left
    · intro w' hSw; clear hSw; (go_simp; try with_reducible rfl)
    try simp only [Act.put, List.setIfInBounds_toArray, List.set_cons_zero, List.set_cons_succ]
    refine wpAnyH_take (i := 20) (oi := ⟨_, _, _, _, _, _⟩) (v := ?_) rfl (by kernel_rfl) (by kernel_rfl) (by kernel_rfl) (fun _ _ _ h => h) (Or.inl ⟨by rfl, ?_⟩) kW ?_
    rotate_left
    · intro w' hSw; have xc := (HP.out w' (hSw.more (by simp))).2.2.1; clear hSw; (go_simp; try with_reducible rfl)
    try simp only [Act.put, List.setIfInBounds_toArray, List.set_cons_zero, List.set_cons_succ]
    refine wpAnyH_take (i := 21) (oi := ⟨_, _, _, _, _, _⟩) (v := ?_) rfl (by kernel_rfl) (by kernel_rfl) (by kernel_rfl) (fun _ _ _ h => h) (Or.inl ⟨by rfl, ?_⟩) kW ?_
    rotate_left
    · intro w' hSw; clear hSw; (go_simp; try with_reducible rfl)
    try simp only [Act.put, List.setIfInBounds_toArray, List.set_cons_zero, List.set_cons_succ]
    refine wpAnyH_take (i := 22) (oi := ⟨_, _, _, _, _, _⟩) (v := ?_) rfl (by kernel_rfl) (by kernel_rfl) (by kernel_rfl) (fun _ _ _ h => h) (Or.inl ⟨by rfl, ?_⟩) kW ?_
    rotate_left
    · intro w' hSw; clear hSw; (go_simp; try with_reducible rfl)
    try simp only [Act.put, List.setIfInBounds_toArray, List.set_cons_zero, List.set_cons_succ]
    refine wpAnyH_take (i := 23) (oi := ⟨_, _, _, _, _, _⟩) (v := ?_) rfl (by kernel_rfl) (by kernel_rfl) (by kernel_rfl) (fun _ _ _ h => h) (Or.inl ⟨by rfl, ?_⟩) kW ?_
    rotate_left
    · intro w' hSw; have xc := (HP.out w' (hSw.more (by simp))).2.2.1; clear hSw; (go_simp; try with_reducible rfl)
    try simp only [Act.put, List.setIfInBounds_toArray, List.set_cons_zero, List.set_cons_succ]
    refine wpAnyH_take (i := 24) (oi := ⟨_, _, _, _, _, _⟩) (v := ?_) rfl (by kernel_rfl) (by kernel_rfl) (by kernel_rfl) (fun _ _ _ h => h) (Or.inl ⟨by rfl, ?_⟩) kW ?_
    rotate_left
    · intro w' hSw; clear hSw; (go_simp; try with_reducible rfl)
    try simp only [Act.put, List.setIfInBounds_toArray, List.set_cons_zero, List.set_cons_succ]
    refine wpAnyH_take (i := 25) (oi := ⟨_, _, _, _, _, _⟩) (v := .int .i64 (300 : Int)) rfl (by kernel_rfl) (by kernel_rfl) (by kernel_rfl) (fun _ _ _ h => h) (Or.inl ⟨by rfl, ?_⟩) kW ?_
    · intro w' hSw; clear hSw; (go_simp; first | done | with_reducible rfl | (intro _; omega) | omega | (simp; omega))
    try simp only [Act.put, List.setIfInBounds_toArray, List.set_cons_zero, List.set_cons_succ]
    refine wpAnyH_take (i := 26) (oi := ⟨_, _, _, _, _, _⟩) (v := .slice A 300 c) rfl (by kernel_rfl) (by kernel_rfl) (by kernel_rfl) (fun _ _ _ h => h) (Or.inl ⟨by rfl, ?_⟩) kW ?_
    · intro w' hSw; clear hSw; (go_simp; first | done | with_reducible rfl | (intro _; omega) | omega | (simp; omega))
    try simp only [Act.put, List.setIfInBounds_toArray, List.set_cons_zero, List.set_cons_succ]
    refine wpAnyH_ready (rs := [10, 28]) (by kernel_rfl) (by simp) ?_
    refine AllReadyH.cons (o := ⟨_, _, _, _, _, _⟩) rfl (fun KK hKK => ?_) (AllReadyH.cons (o := ⟨_, _, _, _, _, _⟩) rfl (fun KK hKK => ?_) AllReadyH.nil)
    · skip
      go_simp
      (with_reducible refine (HB7.out _).mono ?_); rintro e w9 ⟨rfl, rfl⟩
      go_wp2_with fail
      refine hKK.out _ _ kW (fun _ => ?_)
      clear hKK KK
      try simp only [Act.put, List.setIfInBounds_toArray, List.set_cons_zero, List.set_cons_succ]
      refine wpAnyH_take (i := 11) (oi := ⟨_, _, _, _, _, _⟩) (v := ?_) rfl (by kernel_rfl) (by kernel_rfl) (by kernel_rfl) (fun _ _ _ h => h) (Or.inl ⟨by rfl, ?_⟩) kW ?_
      rotate_left
      · intro w' hSw; clear hSw; (go_simp; try with_reducible rfl)
      try simp only [Act.put, List.setIfInBounds_toArray, List.set_cons_zero, List.set_cons_succ]
      refine wpAnyH_take (i := 12) (oi := ⟨_, _, _, _, _, _⟩) (v := ?_) rfl (by kernel_rfl) (by kernel_rfl) (by kernel_rfl) (fun _ _ _ h => h) (Or.inl ⟨by rfl, ?_⟩) kW ?_
      rotate_left
      · intro w' hSw; clear hSw; (go_simp; try with_reducible rfl)
      try simp only [Act.put, List.setIfInBounds_toArray, List.set_cons_zero, List.set_cons_succ]
      refine wpAnyH_ready (rs := [15, 28]) (by kernel_rfl) (by simp) ?_
      refine AllReadyH.cons (o := ⟨_, _, _, _, _, _⟩) rfl (fun KK hKK => ?_) (AllReadyH.cons (o := ⟨_, _, _, _, _, _⟩) rfl (fun KK hKK => ?_) AllReadyH.nil)
      · skip
        go_simp
        (with_reducible refine (HB3.out _).mono ?_); rintro e w9 ⟨rfl, rfl⟩
        go_wp2_with fail
        refine hKK.out _ _ kW (fun _ => ?_)
        clear hKK KK
        try simp only [Act.put, List.setIfInBounds_toArray, List.set_cons_zero, List.set_cons_succ]
        refine wpAnyH_take (i := 27) (oi := ⟨_, _, _, _, _, _⟩) (v := .agg C.toArray) rfl (by kernel_rfl) (by kernel_rfl) (by kernel_rfl) (fun _ _ _ h => h) (yieldsIf_build 39 _ rfl ?_ _ ?_) kW ?_
        · rfl
        · simp only [List.map_toArray, List.map_cons, List.map_nil]
          go_simp
          exact HY.out.2.2.2.1
        try simp only [Act.put, List.setIfInBounds_toArray, List.set_cons_zero, List.set_cons_succ]
        refine wpAnyH_ready (rs := [28]) (by kernel_rfl) (by simp) ?_
        refine AllReadyH.cons (o := ⟨_, _, _, _, _, _⟩) rfl (fun KK hKK => ?_) AllReadyH.nil
        obtain ⟨W1, hW1⟩ : ∃ W, W0.alloc (.cells ZA.toArray 39) = W := ⟨_, rfl⟩
        refine step_alloc_to _ _ rfl 39 rfl _ HZA.out.1 hW1 ?_
        have rW : rowAt W1 W0.heap.size 39 ZA.toArray := by rw [← hW1]; exact rowAt.new _ _ _
        have qW : keepBut [] W0 W1 := by rw [← hW1]; exact (keepBut.refl [] _).alloc _
        obtain ⟨aa, haa⟩ : ∃ a, W0.heap.size = a := ⟨_, rfl⟩
        rw [haa] at rW ⊢
        have hsz := kW.size
        rw [haa] at hsz
        replace kW := kW.then qW (by simp)
        have HA := Lib.hid (And.intro rW hsz)
        clear rW qW hW1 hsz haa
        refine hKK.out _ _ kW (fun _ => ?_)
        clear hKK KK
        try simp only [Act.put, List.setIfInBounds_toArray, List.set_cons_zero, List.set_cons_succ]
        have HT := Lib.hid (HA.out.1.there (o := 0) (n := 38) (by rw [List.size_toArray, HZA.out.2]; decide))
        have k5 : keepBut [] w2 (W1.setCells aa 0 C) := kW.setL (.inr HA.out.2)
        have r5 := set0 HA.out.1 (show C.length = ZA.length by rw [HC.out.1, HZA.out.2])
        refine wpAnyH_ready (rs := [29]) (by kernel_rfl) (by simp) ?_
        refine AllReadyH.cons (o := ⟨_, _, _, _, _, _⟩) rfl (fun KK hKK => ?_) AllReadyH.nil
        refine step_store_mid rfl 39 (.tmp 6) (.tmp 63) rfl aa 0 C.toArray rfl (by rfl) (by rw [List.size_toArray, HC.out.1]; exact HT.out) (by rw [List.size_toArray, HC.out.1]; exact info_anS) (by simpa using HC.out.2) ?_
        refine hKK.out _ _ k5 (fun _ => ?_)
        clear hKK KK
        try simp only [Act.put, List.setIfInBounds_toArray, List.set_cons_zero, List.set_cons_succ]
        refine wpAnyH_done (by kernel_rfl) ?_ _
        go_wp2_with fail
        go_meet
        exact ⟨_, rfl, r5, k5⟩
      · skip
        obtain ⟨W1, hW1⟩ : ∃ W, W0.alloc (.cells ZA.toArray 39) = W := ⟨_, rfl⟩
        refine step_alloc_to _ _ rfl 39 rfl _ HZA.out.1 hW1 ?_
        have rW : rowAt W1 W0.heap.size 39 ZA.toArray := by rw [← hW1]; exact rowAt.new _ _ _
        have qW : keepBut [] W0 W1 := by rw [← hW1]; exact (keepBut.refl [] _).alloc _
        obtain ⟨aa, haa⟩ : ∃ a, W0.heap.size = a := ⟨_, rfl⟩
        rw [haa] at rW ⊢
        have hsz := kW.size
        rw [haa] at hsz
        replace kW := kW.then qW (by simp)
        have HA := Lib.hid (And.intro rW hsz)
        clear rW qW hW1 hsz haa
        refine hKK.out _ _ kW (fun _ => ?_)
        clear hKK KK
        try simp only [Act.put, List.setIfInBounds_toArray, List.set_cons_zero, List.set_cons_succ]
        refine wpAnyH_ready (rs := [15]) (by kernel_rfl) (by simp) ?_
        refine AllReadyH.cons (o := ⟨_, _, _, _, _, _⟩) rfl (fun KK hKK => ?_) AllReadyH.nil
        go_simp
        (with_reducible refine (HB3.out _).mono ?_); rintro e w9 ⟨rfl, rfl⟩
        go_wp2_with fail
        refine hKK.out _ _ kW (fun _ => ?_)
        clear hKK KK
        try simp only [Act.put, List.setIfInBounds_toArray, List.set_cons_zero, List.set_cons_succ]
        refine wpAnyH_take (i := 27) (oi := ⟨_, _, _, _, _, _⟩) (v := .agg C.toArray) rfl (by kernel_rfl) (by kernel_rfl) (by kernel_rfl) (fun _ _ _ h => h) (yieldsIf_build 39 _ rfl ?_ _ ?_) kW ?_
        · rfl
        · simp only [List.map_toArray, List.map_cons, List.map_nil]
          go_simp
          exact HY.out.2.2.2.1
        try simp only [Act.put, List.setIfInBounds_toArray, List.set_cons_zero, List.set_cons_succ]
        have HT := Lib.hid (HA.out.1.there (o := 0) (n := 38) (by rw [List.size_toArray, HZA.out.2]; decide))
        have k5 : keepBut [] w2 (W1.setCells aa 0 C) := kW.setL (.inr HA.out.2)
        have r5 := set0 HA.out.1 (show C.length = ZA.length by rw [HC.out.1, HZA.out.2])
        refine wpAnyH_ready (rs := [29]) (by kernel_rfl) (by simp) ?_
        refine AllReadyH.cons (o := ⟨_, _, _, _, _, _⟩) rfl (fun KK hKK => ?_) AllReadyH.nil
        refine step_store_mid rfl 39 (.tmp 6) (.tmp 63) rfl aa 0 C.toArray rfl (by rfl) (by rw [List.size_toArray, HC.out.1]; exact HT.out) (by rw [List.size_toArray, HC.out.1]; exact info_anS) (by simpa using HC.out.2) ?_
        refine hKK.out _ _ k5 (fun _ => ?_)
        clear hKK KK
        try simp only [Act.put, List.setIfInBounds_toArray, List.set_cons_zero, List.set_cons_succ]
        refine wpAnyH_done (by kernel_rfl) ?_ _
        go_wp2_with fail
        go_meet
        exact ⟨_, rfl, r5, k5⟩
    · skip
      obtain ⟨W1, hW1⟩ : ∃ W, W0.alloc (.cells ZA.toArray 39) = W := ⟨_, rfl⟩
      refine step_alloc_to _ _ rfl 39 rfl _ HZA.out.1 hW1 ?_
      have rW : rowAt W1 W0.heap.size 39 ZA.toArray := by rw [← hW1]; exact rowAt.new _ _ _
      have qW : keepBut [] W0 W1 := by rw [← hW1]; exact (keepBut.refl [] _).alloc _
      obtain ⟨aa, haa⟩ : ∃ a, W0.heap.size = a := ⟨_, rfl⟩
      rw [haa] at rW ⊢
      have hsz := kW.size
      rw [haa] at hsz
      replace kW := kW.then qW (by simp)
      have HA := Lib.hid (And.intro rW hsz)
      clear rW qW hW1 hsz haa
      refine hKK.out _ _ kW (fun _ => ?_)
      clear hKK KK
      try simp only [Act.put, List.setIfInBounds_toArray, List.set_cons_zero, List.set_cons_succ]
      refine wpAnyH_ready (rs := [10]) (by kernel_rfl) (by simp) ?_
      refine AllReadyH.cons (o := ⟨_, _, _, _, _, _⟩) rfl (fun KK hKK => ?_) AllReadyH.nil
      go_simp
      (with_reducible refine (HB7.out _).mono ?_); rintro e w9 ⟨rfl, rfl⟩
      go_wp2_with fail
      refine hKK.out _ _ kW (fun _ => ?_)
      clear hKK KK
      try simp only [Act.put, List.setIfInBounds_toArray, List.set_cons_zero, List.set_cons_succ]
      refine wpAnyH_take (i := 11) (oi := ⟨_, _, _, _, _, _⟩) (v := ?_) rfl (by kernel_rfl) (by kernel_rfl) (by kernel_rfl) (fun _ _ _ h => h) (Or.inl ⟨by rfl, ?_⟩) kW ?_
      rotate_left
      · intro w' hSw; clear hSw; (go_simp; try with_reducible rfl)
      try simp only [Act.put, List.setIfInBounds_toArray, List.set_cons_zero, List.set_cons_succ]
      refine wpAnyH_take (i := 12) (oi := ⟨_, _, _, _, _, _⟩) (v := ?_) rfl (by kernel_rfl) (by kernel_rfl) (by kernel_rfl) (fun _ _ _ h => h) (Or.inl ⟨by rfl, ?_⟩) kW ?_
      rotate_left
      · intro w' hSw; clear hSw; (go_simp; try with_reducible rfl)
      try simp only [Act.put, List.setIfInBounds_toArray, List.set_cons_zero, List.set_cons_succ]
      refine wpAnyH_ready (rs := [15]) (by kernel_rfl) (by simp) ?_
      refine AllReadyH.cons (o := ⟨_, _, _, _, _, _⟩) rfl (fun KK hKK => ?_) AllReadyH.nil
      go_simp
      (with_reducible refine (HB3.out _).mono ?_); rintro e w9 ⟨rfl, rfl⟩
      go_wp2_with fail
      refine hKK.out _ _ kW (fun _ => ?_)
      clear hKK KK
      try simp only [Act.put, List.setIfInBounds_toArray, List.set_cons_zero, List.set_cons_succ]
      refine wpAnyH_take (i := 27) (oi := ⟨_, _, _, _, _, _⟩) (v := .agg C.toArray) rfl (by kernel_rfl) (by kernel_rfl) (by kernel_rfl) (fun _ _ _ h => h) (yieldsIf_build 39 _ rfl ?_ _ ?_) kW ?_
      · rfl
      · simp only [List.map_toArray, List.map_cons, List.map_nil]
        go_simp
        exact HY.out.2.2.2.1
      try simp only [Act.put, List.setIfInBounds_toArray, List.set_cons_zero, List.set_cons_succ]
      have HT := Lib.hid (HA.out.1.there (o := 0) (n := 38) (by rw [List.size_toArray, HZA.out.2]; decide))
      have k5 : keepBut [] w2 (W1.setCells aa 0 C) := kW.setL (.inr HA.out.2)
      have r5 := set0 HA.out.1 (show C.length = ZA.length by rw [HC.out.1, HZA.out.2])
      refine wpAnyH_ready (rs := [29]) (by kernel_rfl) (by simp) ?_
      refine AllReadyH.cons (o := ⟨_, _, _, _, _, _⟩) rfl (fun KK hKK => ?_) AllReadyH.nil
      refine step_store_mid rfl 39 (.tmp 6) (.tmp 63) rfl aa 0 C.toArray rfl (by rfl) (by rw [List.size_toArray, HC.out.1]; exact HT.out) (by rw [List.size_toArray, HC.out.1]; exact info_anS) (by simpa using HC.out.2) ?_
      refine hKK.out _ _ k5 (fun _ => ?_)
      clear hKK KK
      try simp only [Act.put, List.setIfInBounds_toArray, List.set_cons_zero, List.set_cons_succ]
      refine wpAnyH_done (by kernel_rfl) ?_ _
      go_wp2_with fail
      go_meet
      exact ⟨_, rfl, r5, k5⟩
  case rest =>
    obtain ⟨aa, rfl, rA, kA⟩ := hcut
    have rd := kA.row HR.out.2.1 (by simp)
    have HT := Lib.hid (rd.there (o := 0) (n := 87) (by rw [List.size_toArray, HR.out.2.2.2.1]; decide))
    have HRA := Lib.hid (And.intro rA (And.intro rd kA))
    have HB := Lib.hid (run_build wc 44 #[(0, .int .i64 2), (1, .int .i64 10), (2, .int .i64 (20 + s.client)), (8, .agg C.toArray)] _ HY.out.2.2.2.2)
    clear rA rd kA
    go_wp2_with (first
      | (refine wpList_load_mid rfl 39 (.tmp 6) rfl aa 0 rfl C _ HRA.out.1.rangeAll Tryd.underlying39 rfl (by rw [HC.out.1]; exact info_anS) ?_)
      | (refine wpList_build_to _ rfl 44 _ rfl (.agg Y.toArray) #[(0, .int .i64 2), (1, .int .i64 10), (2, .int .i64 (20 + s.client)), (8, .agg C.toArray)] (by simp only [List.map_toArray, List.map_cons, List.map_nil]; rfl) HB.out ?_)
      | (refine wpList_store_mid rfl 44 (.tmp 4) (.tmp 66) rfl dd 0 Y.toArray rfl rfl (by rw [List.size_toArray, HY.out.2.1]; exact HT.out) (by rw [List.size_toArray, HY.out.2.1]; exact info_pkS) (by simpa using HY.out.2.2.1) ?_))
    have r9 := set0 HRA.out.2.1 (show Y.length = Z.length by rw [HY.out.2.1, HR.out.2.2.2.1])
    refine bodyPost_ret (results_cell_row rfl _ _ dd 44 _ (0, 0) _ rfl r9 Tryd.underlying44 rfl (by rw [List.size_toArray, HY.out.2.1]; exact info_pkS)) rfl ?_
    have KF : keepBut [dd] w2 (wc.setCells dd 0 Y) := (HRA.out.2.2.more (T := [dd]) (by simp)).setL (.inl (by simp))
    refine ⟨nilV, .slice A 300 c, nilV, nilV, nilV, by rw [HY.out.1], ⟨rqZero_name, anZero_name, bytesV.nil _ _, (HQ.out.keep HR.out.2.2.1 (by simp)).keep KF (fun y hy hm => ?_), intsV.nil _ _, votesV.nil _ _, bytesV.nil _ _⟩, HR.out.2.2.1.then KF (fun y hy => .inr ?_)⟩
    · have h1 := HGO.out y hy
      have h2 := HS.out
      simp only [List.mem_singleton] at hm
      omega
    · have h2 := HS.out
      simp only [List.mem_singleton] at hy
      omega
end Go.Proofs.YtkpmlcgbffdloaaDoor
