/-
  SP9: SPlay9, SPlay10, joined.
-/
import Derived.Test.YtkpmlcgbffdloaaDoorSP1
section
namespace Go.Proofs.YtkpmlcgbffdloaaDoor
open Go.RowKit
set_option linter.unusedVariables false
set_option maxRecDepth 100000
set_option linter.unusedSimpArgs false

theorem build_reqK (s : SS) (ev : Value) (h : s.req.name.length = 32) : Tryd.prog.built 44 [(0, .int .i64 1), (1, .int .i64 (20 + s.client)), (2, .int .i64 (s.conf.chain.headD 0)), (7, .agg (rqL s.req ev).toArray)] = some (pkL s.reqK ev nilV nilV nilV nilV).toArray := by
  have e1 : (rqL s.req ev).length = 37 := rqL_len h
  have e0 : (rqL rqZero nilV).length = 37 := rqL_len rqZero_name
  rw [built_pkZ]
  rw [fill_cons _ _ 0 _ _ 0 1 rfl rfl (by rw [List.size_toArray, pkZ_len]; omega)]
  rw [fill_cons _ _ 1 _ _ 1 1 rfl rfl (by simp only [putL_size, List.size_toArray, pkZ_len]; omega)]
  rw [fill_cons _ _ 2 _ _ 2 1 rfl rfl (by simp only [putL_size, List.size_toArray, pkZ_len]; omega)]
  rw [fill_cons _ _ 7 _ _ 7 37 rfl (by simp only [Value.cells, List.size_toArray, e1]) (by simp only [putL_size, List.size_toArray, pkZ_len]; omega)]
  rw [Instr.fill]
  refine congrArg some ?_
  have p1 := putL_mid [] [.int .i64 0, .int .i64 0, .int .i64 0] [.int .i64 1, .int .i64 (20 + s.client), .int .i64 (s.conf.chain.headD 0)] (.int .i64 0 :: .int .i64 0 :: .int .i64 0 :: .bool false :: (rqL rqZero nilV ++ (anL anZero nilV ++ (cfL cfZero nilV ++ [nilV, nilV])))) rfl
  have p3 := putL_mid [.int .i64 1, .int .i64 (20 + s.client), .int .i64 (s.conf.chain.headD 0), .int .i64 0, .int .i64 0, .int .i64 0, .bool false] (rqL rqZero nilV) (rqL s.req ev) (anL anZero nilV ++ (cfL cfZero nilV ++ [nilV, nilV])) (by rw [e0, e1])
  have q : putL (putL (putL (pkL pkZero nilV nilV nilV nilV nilV).toArray 0 [.int .i64 1]) 1 [.int .i64 (20 + s.client)]) 2 [.int .i64 (s.conf.chain.headD 0)] = putL (pkL pkZero nilV nilV nilV nilV nilV).toArray 0 [.int .i64 1, .int .i64 (20 + s.client), .int .i64 (s.conf.chain.headD 0)] := rfl
  show putL (putL (putL (putL (pkL pkZero nilV nilV nilV nilV nilV).toArray 0 [.int .i64 1]) 1 [.int .i64 (20 + s.client)]) 2 [.int .i64 (s.conf.chain.headD 0)]) 7 (rqL s.req ev) = _
  exact (congrArg (fun z => putL z 7 (rqL s.req ev)) q).trans ((congrArg (fun z => putL z 7 (rqL s.req ev)) p1).trans p3)
def requestPost (s : SS) (w : World) (e : Ending) (w' : World) : Prop :=
  ∃ ev' G', e = .returned (.agg (pkL s.reqK ev' nilV nilV nilV nilV).toArray) ∧ rqV w' G' s.req ev' ∧ newIn w w' G' ∧ keepBut [] w w'
set_option maxHeartbeats 1000000 in
theorem requestM_any (p : Nat) (s : SS) (cv ev : Value) (F : List Nat) (w : World) (h : isM w p s cv ev F) (hc : s.conf.chain ≠ []) (hb : 0 ≤ s.client ∧ s.client ≤ 2) (hn : s.req.env.length ≤ 1000000) :
    Calls Tryd.prog 55 #[.pointer (some ⟨p, 0, none⟩)] w (requestPost s w) := by
  have HH := Lib.hid h
  obtain ⟨Z, hZ⟩ : ∃ Z, pkL pkZero nilV nilV nilV nilV nilV = Z := ⟨_, rfl⟩
  have hzv := zv_pk
  have hzl := pkZ_len
  rw [hZ] at hzv hzl
  have k1 := (keepBut.refl [] w).alloc (.cells Z.toArray 44)
  have r1 := rowAt.new w 44 Z.toArray
  obtain ⟨w1, hw1⟩ : ∃ w1, w.alloc (.cells Z.toArray 44) = w1 := ⟨_, rfl⟩
  rw [hw1] at k1 r1
  have h1 := h.over k1
  obtain ⟨d, hd⟩ : ∃ d, w.heap.size = d := ⟨_, rfl⟩
  rw [hd] at r1
  have hpd : p ≠ d := by have := h.row.lt; omega
  obtain ⟨A, c, g, rfl, h2, h3, h4, h5⟩ := h1.chain
  obtain ⟨a0, ar, hce⟩ : ∃ a0 ar, s.conf.chain = a0 :: ar := List.exists_cons_of_ne_nil hc
  have hl : 0 < s.conf.chain.length := by rw [hce]; simp
  obtain ⟨o, rfl, hg, hcell⟩ := h4.2 hl
  have z0 : w1.cell? ⟨g, o, none⟩ = some (.int .i64 a0) := by
    have := hcell 0 (.int .i64 a0) (by rw [hce]; rfl)
    simpa using this
  have hgF : g ∈ F := h5 (by rw [hce]; simp)
  have hgd : g ≠ d := by have := (h.far g hgF).1; omega
  obtain ⟨X, hX⟩ : ∃ X, rqL s.req ev = X := ⟨_, rfl⟩
  have r7 : w1.rangeAt p 7 X := h1.row.range (fun j v hv => by
    have := mid_at (k := 7) (l := msHead s (.slice (some ⟨g, o, none⟩) s.conf.chain.length c)) (m := rqL s.req ev) (r := msTail s) rfl j v (by rw [hX]; exact hv)
    simpa [msL] using this)
  obtain ⟨x0, _, _, _, _, _, x6, _⟩ := h1.cells
  have hHP : ∀ w', keepBut [d] w1 w' → w'.cell? ⟨p, 0, none⟩ = some (.int .i64 s.client) ∧ w'.cell? ⟨p, 6, none⟩ = some (.slice (some ⟨g, o, none⟩) s.conf.chain.length c) ∧ w'.cell? ⟨g, o, none⟩ = some (.int .i64 a0) ∧ w'.rangeAt p 7 X := fun w' hk => ⟨(hk.cell (p := ⟨p, 0, none⟩) h1.row.lt (by simpa using hpd)).trans x0, (hk.cell (p := ⟨p, 6, none⟩) h1.row.lt (by simpa using hpd)).trans x6, (hk.cell (p := ⟨g, o, none⟩) hg (by simpa using hgd)).trans z0, rangeAt.keep r7 hk (by simpa using hpd)⟩
  have HDc := Lib.hid (fun w' (hk : keepBut [] w1 w') => copyReqD_any F s.req ev w' ⟨h.nm, h1.env.keep hk (by simp)⟩ hn)
  have HX0 := Lib.hid h.nm
  obtain ⟨n, hnl⟩ : ∃ n, s.conf.chain.length = n := ⟨_, rfl⟩
  rw [hnl] at hl h2 hHP
  have HP := Lib.hid hHP
  have HX := Lib.hid (And.intro hX (show (Tryd.prog.info? 37).map (·.size) = some X.length by rw [← hX, rqL_len HX0.out]; exact info_rqS))
  have HD : Hid (∀ w', keepBut [] w1 w' → Calls Tryd.prog 26 #[.agg X.toArray] w' (copiedP s.req w')) := by rw [← hX]; exact HDc
  have hn0 : (0 : Int) < (n : Int) := by omega
  have hnm : n ≤ 9223372036854775807 := by unfold maxLen at h3; omega
  have HC := Lib.hid (And.intro hc hce)
  have HR := Lib.hid (And.intro r1 (And.intro k1 (And.intro hzl hd)))
  have HW := Lib.hid (And.intro hw1 hzv)
  have hwr : IntKind.i64.wrap (20 + s.client) = 20 + s.client := by rw [IntKind.wrap_i64]; omega
  have hw64 : wrap64 (20 + s.client) = 20 + s.client := by unfold wrap64; omega
  have HWR := Lib.hid (And.intro hwr hw64)
  clear hc hce hcell h4 h5 h2 h3 h h1 hHP HDc hX r7 hb hn z0 r1 k1 hzl hd hw1 hzv x0 x6 hgF hgd hg hZ
  go_enter Tryd.func55, Tryd.ntmps55
  go_upto_region 1 with (first
    | (with_reducible refine wpList_alloc_to _ _ rfl 44 rfl _ HW.out.2 HW.out.1 ?_))
  try simp only [HR.out.2.2.2]
  refine wp_region_held_drew (S := keepBut [d] w1) (by kernel_rfl) ((keepBut.refl [] w1).drew.more (by simp)) (fun _ => ?_)
  have kW := (keepBut.refl [] w1).drew
  obtain ⟨W0, hW0⟩ : ∃ W, w1.drew = W := ⟨_, rfl⟩
  rw [hW0] at kW ⊢
  clear hW0
  refine wpAnyH_take (i := 0) (oi := ⟨_, _, _, _, _, _⟩) (v := ?_) rfl (by kernel_rfl) (by kernel_rfl) (by kernel_rfl) (fun _ _ _ h => h) (Or.inl ⟨by rfl, ?_⟩) (kW.more (by simp)) ?_
  rotate_left
  · intro w' hSw; clear hSw; (go_simp; try with_reducible rfl)
  try simp only [Act.put, List.setIfInBounds_toArray, List.set_cons_zero, List.set_cons_succ]
  refine wpAnyH_take (i := 1) (oi := ⟨_, _, _, _, _, _⟩) (v := ?_) rfl (by kernel_rfl) (by kernel_rfl) (by kernel_rfl) (fun _ _ _ h => h) (Or.inl ⟨by rfl, ?_⟩) (kW.more (by simp)) ?_
  rotate_left
  · intro w' hSw; clear hSw; (go_simp; try with_reducible rfl)
  try simp only [Act.put, List.setIfInBounds_toArray, List.set_cons_zero, List.set_cons_succ]
  refine wpAnyH_take (i := 2) (oi := ⟨_, _, _, _, _, _⟩) (v := ?_) rfl (by kernel_rfl) (by kernel_rfl) (by kernel_rfl) (fun _ _ _ h => h) (Or.inl ⟨by rfl, ?_⟩) (kW.more (by simp)) ?_
  rotate_left
  · intro w' hSw; clear hSw; (go_simp; try with_reducible rfl)
  try simp only [Act.put, List.setIfInBounds_toArray, List.set_cons_zero, List.set_cons_succ]
  refine wpAnyH_take (i := 3) (oi := ⟨_, _, _, _, _, _⟩) (v := ?_) rfl (by kernel_rfl) (by kernel_rfl) (by kernel_rfl) (fun _ _ _ h => h) (Or.inl ⟨by rfl, ?_⟩) (kW.more (by simp)) ?_
  rotate_left
  · intro w' hSw; have xc := (HP.out w' hSw).1; clear hSw; (go_simp; try with_reducible rfl)
  try simp only [Act.put, List.setIfInBounds_toArray, List.set_cons_zero, List.set_cons_succ]
  refine wpAnyH_take (i := 4) (oi := ⟨_, _, _, _, _, _⟩) (v := .int .i64 (20 + s.client)) rfl (by kernel_rfl) (by kernel_rfl) (by kernel_rfl) (fun _ _ _ h => h) (Or.inl ⟨by rfl, ?_⟩) (kW.more (by simp)) ?_
  · intro w' hSw; clear hSw; (go_simp; try with_reducible rfl)
  try simp only [Act.put, List.setIfInBounds_toArray, List.set_cons_zero, List.set_cons_succ]
  refine wpAnyH_take (i := 5) (oi := ⟨_, _, _, _, _, _⟩) (v := ?_) rfl (by kernel_rfl) (by kernel_rfl) (by kernel_rfl) (fun _ _ _ h => h) (Or.inl ⟨by rfl, ?_⟩) (kW.more (by simp)) ?_
  rotate_left
  · intro w' hSw; clear hSw; (go_simp; try with_reducible rfl)
  try simp only [Act.put, List.setIfInBounds_toArray, List.set_cons_zero, List.set_cons_succ]
  refine wpAnyH_take (i := 6) (oi := ⟨_, _, _, _, _, _⟩) (v := ?_) rfl (by kernel_rfl) (by kernel_rfl) (by kernel_rfl) (fun _ _ _ h => h) (Or.inl ⟨by rfl, ?_⟩) (kW.more (by simp)) ?_
  rotate_left
  · intro w' hSw; clear hSw; (go_simp; try with_reducible rfl)
  try simp only [Act.put, List.setIfInBounds_toArray, List.set_cons_zero, List.set_cons_succ]
  refine wpAnyH_take (i := 7) (oi := ⟨_, _, _, _, _, _⟩) (v := ?_) rfl (by kernel_rfl) (by kernel_rfl) (by kernel_rfl) (fun _ _ _ h => h) (Or.inl ⟨by rfl, ?_⟩) (kW.more (by simp)) ?_
  rotate_left
  · intro w' hSw; clear hSw; (go_simp; try with_reducible rfl)
  try simp only [Act.put, List.setIfInBounds_toArray, List.set_cons_zero, List.set_cons_succ]
  refine wpAnyH_take (i := 8) (oi := ⟨_, _, _, _, _, _⟩) (v := ?_) rfl (by kernel_rfl) (by kernel_rfl) (by kernel_rfl) (fun _ _ _ h => h) (Or.inl ⟨by rfl, ?_⟩) (kW.more (by simp)) ?_
  rotate_left
  · intro w' hSw; clear hSw; (go_simp; try with_reducible rfl)
  try simp only [Act.put, List.setIfInBounds_toArray, List.set_cons_zero, List.set_cons_succ]
  refine wpAnyH_take (i := 9) (oi := ⟨_, _, _, _, _, _⟩) (v := ?_) rfl (by kernel_rfl) (by kernel_rfl) (by kernel_rfl) (fun _ _ _ h => h) (Or.inl ⟨by rfl, ?_⟩) (kW.more (by simp)) ?_
  rotate_left
  · intro w' hSw; have xc := (HP.out w' hSw).2.1; clear hSw; (go_simp; try with_reducible rfl)
  try simp only [Act.put, List.setIfInBounds_toArray, List.set_cons_zero, List.set_cons_succ]
  refine wpAnyH_take (i := 10) (oi := ⟨_, _, _, _, _, _⟩) (v := ?_) rfl (by kernel_rfl) (by kernel_rfl) (by kernel_rfl) (fun _ _ _ h => h) (Or.inl ⟨by rfl, ?_⟩) (kW.more (by simp)) ?_
  rotate_left
  · intro w' hSw; clear hSw; (go_simp; try with_reducible rfl)
  try simp only [Act.put, List.setIfInBounds_toArray, List.set_cons_zero, List.set_cons_succ]
  refine wpAnyH_take (i := 11) (oi := ⟨_, _, _, _, _, _⟩) (v := ?_) rfl (by kernel_rfl) (by kernel_rfl) (by kernel_rfl) (fun _ _ _ h => h) (Or.inl ⟨by rfl, ?_⟩) (kW.more (by simp)) ?_
  rotate_left
  · intro w' hSw; have xc := (HP.out w' hSw).2.2.1; clear hSw; (go_simp; try with_reducible rfl)
  try simp only [Act.put, List.setIfInBounds_toArray, List.set_cons_zero, List.set_cons_succ]
  refine wpAnyH_take (i := 12) (oi := ⟨_, _, _, _, _, _⟩) (v := ?_) rfl (by kernel_rfl) (by kernel_rfl) (by kernel_rfl) (fun _ _ _ h => h) (Or.inl ⟨by rfl, ?_⟩) (kW.more (by simp)) ?_
  rotate_left
  · intro w' hSw; clear hSw; (go_simp; try with_reducible rfl)
  try simp only [Act.put, List.setIfInBounds_toArray, List.set_cons_zero, List.set_cons_succ]
  refine wpAnyH_take (i := 13) (oi := ⟨_, _, _, _, _, _⟩) (v := ?_) rfl (by kernel_rfl) (by kernel_rfl) (by kernel_rfl) (fun _ _ _ h => h) (Or.inl ⟨by rfl, ?_⟩) (kW.more (by simp)) ?_
  rotate_left
  · intro w' hSw; clear hSw; (go_simp; try with_reducible rfl)
  try simp only [Act.put, List.setIfInBounds_toArray, List.set_cons_zero, List.set_cons_succ]
  refine wpAnyH_take (i := 14) (oi := ⟨_, _, _, _, _, _⟩) (v := ?_) rfl (by kernel_rfl) (by kernel_rfl) (by kernel_rfl) (fun _ _ _ h => h) (Or.inl ⟨by rfl, ?_⟩) (kW.more (by simp)) ?_
  rotate_left
  · intro w' hSw; clear hSw; (go_simp; try with_reducible rfl)
  try simp only [Act.put, List.setIfInBounds_toArray, List.set_cons_zero, List.set_cons_succ]
  refine wpAnyH_take (i := 15) (oi := ⟨_, _, _, _, _, _⟩) (v := .agg X.toArray) rfl (by kernel_rfl) (by kernel_rfl) (by kernel_rfl) (fun _ _ _ h => h) (yieldsIf_mid 37 (.tmp 17) rfl p 7 rfl X _ (fun w' hSw => (HP.out w' hSw).2.2.2) Tryd.underlying37 rfl HX.out.2 ?_) (kW.more (by simp)) ?_
  · rfl
  try simp only [Act.put, List.setIfInBounds_toArray, List.set_cons_zero, List.set_cons_succ]
  refine wpAnyH_ready (rs := [16]) (by kernel_rfl) (by simp) ?_
  refine AllReadyH.cons (o := ⟨_, _, _, _, _, _⟩) rfl (fun KK hKK => ?_) AllReadyH.nil
  go_simp
  (with_reducible refine (HD.out _ kW).mono ?_); rintro e w3 ⟨ev', rfl, G', hv', hG', k3⟩
  have hszW := kW.size
  replace kW := kW.then k3 (by simp)
  have HV := Lib.hid (And.intro hv' (And.intro hG' hszW))
  clear hv' hG' k3 hszW
  go_wp2_with fail
  refine hKK.out _ _ (kW.more (by simp)) (fun _ => ?_)
  clear hKK KK
  try simp only [Act.put, List.setIfInBounds_toArray, List.set_cons_zero, List.set_cons_succ]
  have hbd := build_reqK s ev' HV.out.1.1
  rw [HC.out.2] at hbd
  simp only [List.headD_cons] at hbd
  obtain ⟨N, hN⟩ : ∃ N, rqL s.req ev' = N := ⟨_, rfl⟩
  obtain ⟨Y, hY⟩ : ∃ Y, pkL s.reqK ev' nilV nilV nilV nilV = Y := ⟨_, rfl⟩
  have hYl : Y.length = 87 := by rw [← hY]; exact pkL_len HV.out.1.1 anZero_name
  have hYo : ∀ u ∈ Y, u.oneCell' = true := by rw [← hY]; exact pkL_one HV.out.1.2.one rfl rfl rfl rfl
  rw [hN] at hbd ⊢
  rw [hY] at hbd
  have HB := Lib.hid hbd
  have HY := Lib.hid (And.intro hY (And.intro hYl hYo))
  have hr3 := kW.row HR.out.1 (by simp)
  have HT := Lib.hid (hr3.there (o := 0) (n := 87) (by rw [List.size_toArray, HR.out.2.2.1]; decide))
  have H3 := Lib.hid hr3
  clear hbd hN hY hYl hYo hr3
  refine wpAnyH_take (i := 17) (oi := ⟨_, _, _, _, _, _⟩) (v := .agg Y.toArray) rfl (by kernel_rfl) (by kernel_rfl) (by kernel_rfl) (fun _ _ _ h => h) (yieldsIf_build 44 _ rfl ?_ _ ?_) (kW.more (by simp)) ?_
  · rfl
  · simp only [List.map_toArray, List.map_cons, List.map_nil]
    go_simp
    exact HB.out
  try simp only [Act.put, List.setIfInBounds_toArray, List.set_cons_zero, List.set_cons_succ]
  have k5 : keepBut [d] w3 (w3.setCells d 0 Y) := (keepBut.refl _ _).setL (.inl (by simp))
  have HK5 := Lib.hid (And.intro kW k5)
  clear kW k5
  refine wpAnyH_ready (rs := [18]) (by kernel_rfl) (by simp) ?_
  refine AllReadyH.cons (o := ⟨_, _, _, _, _, _⟩) rfl (fun KK hKK => ?_) AllReadyH.nil
  refine step_store_mid rfl 44 (.tmp 2) (.tmp 20) rfl d 0 Y.toArray rfl (by rfl) (by rw [List.size_toArray, HY.out.2.1]; exact HT.out) (by rw [List.size_toArray, HY.out.2.1]; exact info_pkS) (by simpa using HY.out.2.2) ?_
  refine hKK.out _ _ ((HK5.out.1.more (T := [d]) (by simp)).then HK5.out.2 (fun x hx => .inl hx)) (fun _ => ?_)
  clear hKK KK
  try simp only [Act.put, List.setIfInBounds_toArray, List.set_cons_zero, List.set_cons_succ]
  refine wpAnyH_done (by kernel_rfl) ?_ _
  go_wp2_with fail
  have r9 := set0 H3.out (show Y.length = Z.length by rw [HY.out.2.1, HR.out.2.2.1])
  refine bodyPost_ret (results_cell_row rfl _ _ d 44 _ (0, 0) _ rfl r9 Tryd.underlying44 rfl (by rw [List.size_toArray, HY.out.2.1]; exact info_pkS)) rfl ?_
  refine ⟨ev', G', by rw [HY.out.1], ⟨HV.out.1.1, HV.out.1.2.keep HK5.out.2 (fun y hy hm => ?_)⟩, fun y hy => ⟨?_, ?_⟩, ((HR.out.2.1.then HK5.out.1 (by simp))).then HK5.out.2 (fun y hy => .inr ?_)⟩
  · have h1 := (HV.out.2.1 y hy).1
    have h2 := HV.out.2.2
    have h3 := HR.out.1.lt
    simp only [List.mem_singleton] at hm
    omega
  · have h1 := (HV.out.2.1 y hy).1
    have h2 := HV.out.2.2
    have h3 := HR.out.2.1.size
    omega
  · have h1 := (HV.out.2.1 y hy).2
    have h3 := HK5.out.2.size
    omega
  · have := HR.out.2.2.2
    simp only [List.mem_singleton] at hy
    omega
end Go.Proofs.YtkpmlcgbffdloaaDoor
end

section
namespace Go.Proofs.YtkpmlcgbffdloaaDoor
open Go.RowKit
set_option linter.unusedVariables false
set_option maxRecDepth 100000
set_option linter.unusedSimpArgs false

theorem askCellsK (c i : Int) : ((Tryd.zeroCells44.setIfInBounds 0 (.int .i64 9)).setIfInBounds 1 (.int .i64 c)).setIfInBounds 2 (.int .i64 i) = (pkL ((SS.ask i).from c) nilV nilV nilV nilV nilV).toArray := by kernel_rfl
theorem asksK_take (s : SS) {k : Nat} (h : k < 3) : s.asksK.take (k + 1) = s.asksK.take k ++ [(SS.ask (k : Int)).from (20 + s.client)] := by
  match k, h with
  | 0, _ => rfl
  | 1, _ => rfl
  | 2, _ => rfl
/-- on the way through a tick of the document's that began in w0: L is what it has so far, as the slice v -/
structure goesM (p : Nat) (s : SS) (cv ev : Value) (F : List Nat) (w0 : World) (L : List PK) (v : Value) (D : List (PK × List Value)) (K : List Nat) (W : World) : Prop where
  is : isM W p s cv ev F
  kept : keepBut [p] w0 W
  ps : D.map (·.1) = L
  own : ownsO W 44 87 v D.length (flatP D)
  its : ∀ t ∈ D, itemV W K t
  newK : newIn w0 W K
  newV : ∀ x ∈ homes v, w0.heap.size ≤ x
  apart : ∀ y ∈ K, y ∉ homes v
  old : p < w0.heap.size ∧ ∀ y ∈ F, y < w0.heap.size
def tickMPost (p : Nat) (a : List PK × SS) (cv ev : Value) (F : List Nat) (w : World) (e : Ending) (w' : World) : Prop :=
  ∃ v D K, e = .returned v ∧ goesM p a.2 cv ev F w a.1 v D K w'
section
variable {p : Nat} {s : SS} {cv ev v : Value} {F : List Nat} {w : World} {L : List PK} {K : List Nat} {D : List (PK × List Value)} {W : World} (h : goesM p s cv ev F w L v D K W)
include h
theorem goesM.len : D.length = L.length := by rw [← h.ps, List.length_map]
theorem goesM.over {W' : World} (hk : keepBut [] W W') : goesM p s cv ev F w L v D K W' :=
  ⟨h.is.over hk, h.kept.then hk (by simp), h.ps, h.own.keep hk (by simp), fun t ht => (h.its t ht).keep hk (by simp), fun y hy => ⟨(h.newK y hy).1, Nat.lt_of_lt_of_le (h.newK y hy).2 hk.size⟩, h.newV, h.apart, h.old⟩
theorem goesM.poke {s' : SS} {W' : World} (a : isM W' p s' cv ev F ∧ keepBut [p] W W') : goesM p s' cv ev F w L v D K W' :=
  ⟨a.1, h.kept.then a.2 (fun x hx => .inl hx), h.ps, h.own.keep a.2 (fun x hx hm => by simp only [List.mem_singleton] at hm; subst hm; have := h.newV _ hx; have := h.old.1; omega), fun t ht => (h.its t ht).keep a.2 (fun y hy hm => by simp only [List.mem_singleton] at hm; subst hm; have := (h.newK _ hy).1; have := h.old.1; omega), fun y hy => ⟨(h.newK y hy).1, Nat.lt_of_lt_of_le (h.newK y hy).2 a.2.size⟩, h.newV, h.apart, h.old⟩
theorem goesM.ready {t : PK × List Value} {G : List Nat} {W1 : World} (k1 : keepBut [] W W1) (ht : itemV W1 G t) (hG : newIn W W1 G) :
    ∃ W2, W1.alloc (.cells t.2.toArray 44) = W2 ∧ reads W2 (some ⟨W1.heap.size, 0, none⟩) W1.heap.size 1 87 t.2 ∧ ownsO W2 44 87 v D.length (flatP D) ∧
      ∀ A' c' W3, ownsO W3 44 87 (.slice A' (D.length + 1) c') (D.length + 1) (flatP D ++ t.2) → keepBut (homes v) W2 W3 → (∀ x ∈ homes (.slice A' (D.length + 1) c'), x ∈ homes v ∨ W2.heap.size ≤ x) → goesM p s cv ev F w (L ++ [t.1]) (.slice A' (D.length + 1) c') (D ++ [t]) (K ++ G) W3 := by
  have hr := reads_row W1 44 t.2
  have k2 := (keepBut.refl [] W1).alloc (.cells t.2.toArray 44)
  have sz : (W1.alloc (.cells t.2.toArray 44)).heap.size = W1.heap.size + 1 := World.size_alloc ..
  generalize W1.alloc (.cells t.2.toArray 44) = W2 at hr k2 sz
  rw [ht.len] at hr
  have k12 := k1.then k2 (by simp)
  refine ⟨W2, rfl, hr, h.own.keep k12 (by simp), fun A' c' W3 o3 k3 n3 => ?_⟩
  have s1 := k1.size
  have s0 := h.kept.size
  have hlt := h.own.lt
  have hk : keepBut (homes v) W W3 := (k12.more (by simp)).then k3 (fun x hx => .inl hx)
  have hGv : ∀ y ∈ G, y ∉ homes v := fun y hy hm => by have a := (hG y hy).1; have b := hlt y hm; omega
  have hF : ∀ y ∈ F, y ∉ homes v := fun y hy hm => by have := h.old.2 y hy; have := h.newV y hm; omega
  refine ⟨h.is.keep hk (h.own.apart h.is.row (by decide)) hF, h.kept.then hk (fun x hx => .inr (h.newV x hx)), by rw [List.map_append, h.ps]; rfl, by rw [List.length_append, List.length_singleton, flatP_append]; simpa [flatP] using o3, fun u hu => ?_, fun y hy => ?_, fun x hx => ?_, fun y hy hm => ?_, h.old⟩
  · rcases List.mem_append.1 hu with hu | hu
    · exact ((h.its u hu).keep hk h.apart).more (by simp +contextual)
    · simp only [List.mem_singleton] at hu
      subst hu
      exact ((ht.keep (k2.more (T := homes v) (by simp)) hGv).keep k3 hGv).more (by simp +contextual)
  · have s3 := k3.size
    have s2 := k2.size
    rcases List.mem_append.1 hy with hy | hy
    · have := h.newK y hy; omega
    · have := hG y hy; omega
  · rcases n3 x hx with hx | hx
    · exact h.newV x hx
    · omega
  · rcases List.mem_append.1 hy with hy | hy
    · rcases n3 y hm with hm | hm
      · exact h.apart y hy hm
      · have := (h.newK y hy).2; omega
    · rcases n3 y hm with hm | hm
      · exact hGv y hy hm
      · have := (hG y hy).2; omega
theorem goesM.request (hc : s.conf.chain ≠ []) (hb : 0 ≤ s.client ∧ s.client ≤ 2) (hn : s.req.env.length ≤ 1000000) : Calls Tryd.prog 55 #[.pointer (some ⟨p, 0, none⟩)] W (requestPost s W) := requestM_any p s cv ev F W h.is hc hb hn
theorem goesM.drewN (n : Nat) : goesM p s cv ev F w L v D K (W.drewN n) := h.over ((keepBut.refl [] W).drewN n)
theorem goesM.drew : goesM p s cv ev F w L v D K W.drew := h.over ((keepBut.refl [] W).drew)
end
theorem goesM.start {p : Nat} {s : SS} {cv ev : Value} {F : List Nat} {w : World} (h : isM w p s cv ev F) (n : Int) : goesM p (s.setTicks n) cv ev F w [] (.slice none 0 0) [] [] (w.setCell ⟨p, 47, none⟩ (.int .i64 n)) :=
  ⟨(h.ticks n).1, (h.ticks n).2, rfl, ownsO.nil _ _ _, by simp, by simp [newIn], by simp [homes_none], by simp, h.row.lt, fun y hy => (h.far y hy).1⟩
theorem reqK_item {w : World} {G : List Nat} {ev : Value} (s : SS) (h : rqV w G s.req ev) : itemV w G (s.reqK, pkL s.reqK ev nilV nilV nilV nilV) :=
  ⟨_, _, _, _, _, rfl, ⟨h.1, anZero_name, h.2, bytesV.nil _ _, intsV.nil _ _, votesV.nil _ _, bytesV.nil _ _⟩⟩
theorem askK_item (w : World) (F : List Nat) (c i : Int) : itemV w F ((SS.ask i).from c, pkL ((SS.ask i).from c) nilV nilV nilV nilV nilV) := ⟨_, _, _, _, _, rfl, ⟨rqZero_name, anZero_name, bytesV.nil _ _, bytesV.nil _ _, intsV.nil _ _, votesV.nil _ _, bytesV.nil _ _⟩⟩
section
variable (p : Nat) (s : SS) (cv ev : Value) (F : List Nat) (w : World) (h : isM w p s cv ev F)
include h
theorem tickM_none (hw : s.waits = false) : Calls Tryd.prog 30 #[.pointer (some ⟨p, 0, none⟩)] w (tickMPost p ([], s) cv ev F w) := by
  have x44 := h.cells.2.2.2.2.2.2.2.1
  rw [hw] at x44
  have H0 := Lib.hid h
  clear h hw
  go_enter Tryd.func30, Tryd.ntmps30
  go_wp2_with fail
  go_ret
  exact ⟨_, [], [], rfl, H0.out, keepBut.refl _ _, rfl, ownsO.nil _ _ _, by simp, by simp [newIn], by simp [homes_none], by simp, H0.out.row.lt, fun y hy => (H0.out.far y hy).1⟩
theorem tickM_late (hw : s.waits = true) (ht : 0 ≤ s.ticks ∧ s.ticks ≤ 100000) (hm : s.most < s.ticks + 1) : Calls Tryd.prog 30 #[.pointer (some ⟨p, 0, none⟩)] w (tickMPost p ([], ((s.setTicks (s.ticks + 1)).setWaits false).setLate true) cv ev F w) := by
  obtain ⟨_, _, _, x3, _, _, _, x44, _, _, x47, _⟩ := h.cells
  rw [hw] at x44
  have f47 := h.row.free 47
  obtain ⟨ht0, ht1⟩ := ht
  have hwr : IntKind.i64.wrap (s.ticks + 1) = s.ticks + 1 := by rw [IntKind.wrap_i64]; omega
  have H0 := Lib.hid h
  clear h hw ht0 ht1
  go_enter Tryd.func30, Tryd.ntmps30
  go_upto_region 4 with fail
  go_quiet (fail)
  have g1 := ((goesM.start H0.out (s.ticks + 1)).drewN nq)
  generalize (w.setCell ⟨p, 47, none⟩ (.int .i64 (s.ticks + 1))).drewN nq = w1 at g1 ⊢
  have G1 := Lib.hid g1
  obtain ⟨_, _, _, _, _, _, _, y44, _, y46, _⟩ := g1.is.cells
  have f44 := g1.is.row.free 44
  have f46 := g1.is.row.free 46
  clear g1
  go_wp2_with fail
  go_ret
  have a2 := G1.out.is.waits false
  have a3 := a2.1.late true
  exact ⟨_, [], [], rfl, (G1.out.poke a2).poke a3⟩
set_option maxHeartbeats 4000000 in
theorem tickM_1 (hw : s.waits = true) (hb : 0 ≤ s.client ∧ s.client ≤ 2) (hl : 1 ≤ s.limit ∧ s.limit ≤ 1000) (ht : 0 ≤ s.ticks ∧ s.ticks ≤ 100000) (hn : s.req.env.length ≤ 1000000) (hm : ¬ s.most < s.ticks + 1) (hc : s.conf.chain = []) (hs : s.sent = false) (ha : ¬ (s.ticks + 1) % s.limit = 0) : Calls Tryd.prog 30 #[.pointer (some ⟨p, 0, none⟩)] w (tickMPost p (s.tickL, (s.setTicks (s.ticks + 1)).setSent (s.sent || decide (s.conf.chain ≠ []))) cv ev F w) := by
  obtain ⟨A, cc, g, rfl, _, h3, _⟩ := h.chain
  obtain ⟨n, hnl⟩ : ∃ n, s.conf.chain.length = n := ⟨_, rfl⟩
  have hnm : n ≤ 9223372036854775807 := by unfold maxLen at h3; omega
  have HN := Lib.hid hnl
  obtain rfl : n = 0 := by rw [← hnl, hc]; rfl
  obtain ⟨_, _, x2, x3, _, _, _, x44, _, _, x47, _⟩ := h.cells
  rw [hw] at x44
  have f47 := h.row.free 47
  obtain ⟨ht0, ht1⟩ := ht
  obtain ⟨hb1, hb2⟩ := hb
  have hwr : IntKind.i64.wrap (s.ticks + 1) = s.ticks + 1 := by rw [IntKind.wrap_i64]; omega
  have hw64 : wrap64 (s.ticks + 1) = s.ticks + 1 := by unfold wrap64; omega
  have hmd : (s.ticks + 1).tmod s.limit = (s.ticks + 1) % s.limit := Int.tmod_eq_emod_of_nonneg (by omega)
  have HE := Lib.hid (show s.tickL = s.asksK ∧ (s.sent || decide (s.conf.chain ≠ [])) = false from by
    unfold SS.tickL
    simp [hc, hs, ha, ifL])
  have H0 := Lib.hid h
  have HB := Lib.hid (And.intro (And.intro hb1 hb2) (And.intro hn (And.intro hs hc)))
  have ha2 : ((s.ticks + 1) % s.limit == 0) = false := by simp [ha]
  have hl0 : ¬ s.limit = 0 := by omega
  have hl2 : (s.limit == 0) = false := by simp; omega
  have hm2 : s.ticks + 1 ≤ s.most := by omega
  have HA := Lib.hid (show ((s.asksK : List PK), (s.setTicks (s.ticks + 1))) = (s.tickL, (s.setTicks (s.ticks + 1)).setSent (s.sent || decide (s.conf.chain ≠ []))) by rw [HE.out.1, HE.out.2]; exact congrArg (Prod.mk _) (setSent_self hs _).symm)
  obtain ⟨z, hz⟩ : ∃ z, (s.tickL, (s.setTicks (s.ticks + 1)).setSent (s.sent || decide (s.conf.chain ≠ []))) = z := ⟨_, rfl⟩
  rw [hz] at HA ⊢
  obtain ⟨iP, zP, hiP, hsP, hbP, hzP, hcP⟩ := info_P
  have HI := Lib.hid (And.intro hiP (And.intro hsP (And.intro hbP (And.intro hzP hcP))))
  have hw20 : IntKind.i64.wrap (20 + s.client) = 20 + s.client := by rw [IntKind.wrap_i64]; omega
  clear hz h hw hs hc hl ht0 ht1 hn ha hm hiP hsP hbP hzP hcP h3 hnl
  go_enter Tryd.func30, Tryd.ntmps30
  go_upto_region 4 with fail
  go_quiet (fail)
  have g1 := ((goesM.start H0.out (s.ticks + 1)).drewN nq)
  generalize (w.setCell ⟨p, 47, none⟩ (.int .i64 (s.ticks + 1))).drewN nq = w1 at g1 ⊢
  obtain ⟨_, _, y2, _, _, _, y6, _, y45, _, y47, _⟩ := g1.is.cells
  replace y2 : w1.cell? ⟨p, 2, none⟩ = some (.int .i64 s.limit) := y2
  replace y47 : w1.cell? ⟨p, 47, none⟩ = some (.int .i64 (s.ticks + 1)) := y47
  replace y45 : w1.cell? ⟨p, 45, none⟩ = some (.bool false) := by rw [← HB.out.2.2.1]; exact y45
  replace y6 : w1.cell? ⟨p, 6, none⟩ = some (.slice A 0 cc) := by rw [← HN.out]; exact y6
  have HG := Lib.hid g1
  clear g1 x2 x3 x44 x47 f47
  go_upto_region 11 with fail
  go_region
  have g2 := HG.out.drew
  generalize w1.drew = w2 at g2 ⊢
  have HG2 := Lib.hid g2
  clear g2 HG y2 y47 y45 y6 hm2 ha2 hmd hw64 hwr
  go_wp2_with fail
  go_loopw [3, 7] (fun v3 v7 wx => ∃ (k : Nat) (D : List (PK × List Value)) (K : List Nat), k ≤ 3 ∧ v7 = .int .i64 (k : Int) ∧ Hid (goesM p (s.setTicks (s.ticks + 1)) (.slice A s.conf.chain.length cc) ev F w ([] ++ s.asksK.take k) v3 D K wx)) (fun _ v7 _ => 3 - (intOf v7).toNat)
  case atStart => exact ⟨0, _, _, by omega, rfl, HG2⟩
  case round =>
    obtain ⟨k, D, K, hk, rfl, HGk⟩ := hrel
    have y0 : wr.cell? ⟨p, 0, none⟩ = some (.int .i64 s.client) := HGk.out.is.cells.1
    have y45 := HGk.out.is.cells.2.2.2.2.2.2.2.2.1
    replace y45 : wr.cell? ⟨p, 45, none⟩ = some (.bool false) := by first | exact y45 | (rw [← HB.out.2.2.1]; exact y45)
    by_cases hlt : k < 3
    · have hk1 : (k : Int) < 3 := by omega
      have hk0 : (0 : Int) ≤ (k : Int) := by omega
      have hwi : IntKind.i64.wrap ((k : Int) + 1) = (k : Int) + 1 := by rw [IntKind.wrap_i64]; omega
      obtain ⟨W2, hW2, hr2, ho2, hnx⟩ := HGk.out.ready (keepBut.refl [] wr) (askK_item wr [] (20 + s.client) (k : Int)) (by simp [newIn])
      obtain ⟨X, hX⟩ : ∃ X, pkL ((SS.ask (k : Int)).from (20 + s.client)) nilV nilV nilV nilV nilV = X := ⟨_, rfl⟩
      have HXL := Lib.hid (show X.length = 87 ∧ ∀ u ∈ X, u.oneCell' = true from by rw [← hX]; exact ⟨pkL_len rqZero_name anZero_name, pkL_one rfl rfl rfl rfl rfl⟩)
      have HXC := Lib.hid ((askCellsK (20 + s.client) (k : Int)).trans (congrArg List.toArray hX))
      dsimp only at hW2 hr2 hnx
      rw [hX] at hW2 hr2 hnx
      have HQ := Lib.hid (And.intro hW2 (And.intro hr2 (And.intro ho2 hnx)))
      have HLE := Lib.hid (show D.length + 1 ≤ 5 by have h := HGk.out.len; simp only [List.length_append, List.length_take, List.length_nil, List.length_singleton] at h; omega)
      clear hW2 hr2 ho2 hnx hX
      go_wp2_with (first
        | (rw [HXC.out]; refine wpList_build_one _ _ rfl 64 (.tmp 91) rfl 44 iP zP X rfl Tryd.underlying64 HI.out.1 HI.out.2.2.2.1 (by rw [HI.out.2.1]; exact HXL.out.1.symm) (by have := HXL.out.1; omega) (by have := HXL.out.1; omega) HQ.out.1 ?_)
        | (refine wp_appendO _ rfl (.tmp 84) (.tmp 92) 64 rfl 44 iP zP 87 iP.bytes Tryd.underlying64 HI.out.1 HI.out.2.2.2.1 HI.out.2.1 rfl HI.out.2.2.2.2 (by decide) _ _ _ rfl HQ.out.2.2.1 (some ⟨wr.heap.size, 0, none⟩) wr.heap.size 1 1 X rfl HQ.out.2.1 HXL.out.2 (by decide) (Nat.le_trans (Nat.mul_le_mul HLE.out HI.out.2.2.1) (by decide)) (by have := HLE.out; simp only [maxLen]; omega) ?_; intro A' c' w6 o6 k6 n6; have h6 := HQ.out.2.2.2 A' c' w6 o6 k6 n6; rw [List.append_assoc, ← asksK_take s hlt, List.append_nil] at h6; have H6k := Lib.hid h6; clear h6 o6 k6 n6))
      go_roundw
      case rel => exact ⟨k + 1, _, _, by omega, rfl, H6k⟩
      case measure => simp only [intOf]; omega
    · obtain rfl : k = 3 := by omega
      go_wp2_with fail
      go_ret
      rw [← HA.out]
      have h6 := HGk.out
      rw [show s.asksK.take 3 = s.asksK from rfl] at h6
      exact ⟨_, _, _, rfl, h6⟩
set_option maxHeartbeats 4000000 in
theorem tickM_2 (hw : s.waits = true) (hb : 0 ≤ s.client ∧ s.client ≤ 2) (hl : 1 ≤ s.limit ∧ s.limit ≤ 1000) (ht : 0 ≤ s.ticks ∧ s.ticks ≤ 100000) (hn : s.req.env.length ≤ 1000000) (hm : ¬ s.most < s.ticks + 1) (hc : s.conf.chain = []) (hs : s.sent = false) (ha : (s.ticks + 1) % s.limit = 0) : Calls Tryd.prog 30 #[.pointer (some ⟨p, 0, none⟩)] w (tickMPost p (s.tickL, (s.setTicks (s.ticks + 1)).setSent (s.sent || decide (s.conf.chain ≠ []))) cv ev F w) := by
  obtain ⟨A, cc, g, rfl, _, h3, _⟩ := h.chain
  obtain ⟨n, hnl⟩ : ∃ n, s.conf.chain.length = n := ⟨_, rfl⟩
  have hnm : n ≤ 9223372036854775807 := by unfold maxLen at h3; omega
  have HN := Lib.hid hnl
  obtain rfl : n = 0 := by rw [← hnl, hc]; rfl
  obtain ⟨_, _, x2, x3, _, _, _, x44, _, _, x47, _⟩ := h.cells
  rw [hw] at x44
  have f47 := h.row.free 47
  obtain ⟨ht0, ht1⟩ := ht
  obtain ⟨hb1, hb2⟩ := hb
  have hwr : IntKind.i64.wrap (s.ticks + 1) = s.ticks + 1 := by rw [IntKind.wrap_i64]; omega
  have hw64 : wrap64 (s.ticks + 1) = s.ticks + 1 := by unfold wrap64; omega
  have hmd : (s.ticks + 1).tmod s.limit = (s.ticks + 1) % s.limit := Int.tmod_eq_emod_of_nonneg (by omega)
  have HE := Lib.hid (show s.tickL = s.asksK ∧ (s.sent || decide (s.conf.chain ≠ [])) = false from by
    unfold SS.tickL
    simp [hc, hs, ha, ifL])
  have H0 := Lib.hid h
  have HB := Lib.hid (And.intro (And.intro hb1 hb2) (And.intro hn (And.intro hs hc)))
  have ha2 : ((s.ticks + 1) % s.limit == 0) = true := by simp [ha]
  have hl0 : ¬ s.limit = 0 := by omega
  have hl2 : (s.limit == 0) = false := by simp; omega
  have hm2 : s.ticks + 1 ≤ s.most := by omega
  have HA := Lib.hid (show ((s.asksK : List PK), (s.setTicks (s.ticks + 1))) = (s.tickL, (s.setTicks (s.ticks + 1)).setSent (s.sent || decide (s.conf.chain ≠ []))) by rw [HE.out.1, HE.out.2]; exact congrArg (Prod.mk _) (setSent_self hs _).symm)
  obtain ⟨z, hz⟩ : ∃ z, (s.tickL, (s.setTicks (s.ticks + 1)).setSent (s.sent || decide (s.conf.chain ≠ []))) = z := ⟨_, rfl⟩
  rw [hz] at HA ⊢
  obtain ⟨iP, zP, hiP, hsP, hbP, hzP, hcP⟩ := info_P
  have HI := Lib.hid (And.intro hiP (And.intro hsP (And.intro hbP (And.intro hzP hcP))))
  have hw20 : IntKind.i64.wrap (20 + s.client) = 20 + s.client := by rw [IntKind.wrap_i64]; omega
  clear hz h hw hs hc hl ht0 ht1 hn ha hm hiP hsP hbP hzP hcP h3 hnl
  go_enter Tryd.func30, Tryd.ntmps30
  go_upto_region 4 with fail
  go_quiet (fail)
  have g1 := ((goesM.start H0.out (s.ticks + 1)).drewN nq)
  generalize (w.setCell ⟨p, 47, none⟩ (.int .i64 (s.ticks + 1))).drewN nq = w1 at g1 ⊢
  obtain ⟨_, _, y2, _, _, _, y6, _, y45, _, y47, _⟩ := g1.is.cells
  replace y2 : w1.cell? ⟨p, 2, none⟩ = some (.int .i64 s.limit) := y2
  replace y47 : w1.cell? ⟨p, 47, none⟩ = some (.int .i64 (s.ticks + 1)) := y47
  replace y45 : w1.cell? ⟨p, 45, none⟩ = some (.bool false) := by rw [← HB.out.2.2.1]; exact y45
  replace y6 : w1.cell? ⟨p, 6, none⟩ = some (.slice A 0 cc) := by rw [← HN.out]; exact y6
  have HG := Lib.hid g1
  clear g1 x2 x3 x44 x47 f47
  go_upto_region 11 with fail
  go_region
  have g2 := HG.out.drew
  generalize w1.drew = w2 at g2 ⊢
  have HG2 := Lib.hid g2
  clear g2 HG y2 y47 y45 y6 hm2 ha2 hmd hw64 hwr
  go_wp2_with fail
  go_loopw [3, 7] (fun v3 v7 wx => ∃ (k : Nat) (D : List (PK × List Value)) (K : List Nat), k ≤ 3 ∧ v7 = .int .i64 (k : Int) ∧ Hid (goesM p (s.setTicks (s.ticks + 1)) (.slice A s.conf.chain.length cc) ev F w ([] ++ s.asksK.take k) v3 D K wx)) (fun _ v7 _ => 3 - (intOf v7).toNat)
  case atStart => exact ⟨0, _, _, by omega, rfl, HG2⟩
  case round =>
    obtain ⟨k, D, K, hk, rfl, HGk⟩ := hrel
    have y0 : wr.cell? ⟨p, 0, none⟩ = some (.int .i64 s.client) := HGk.out.is.cells.1
    have y45 := HGk.out.is.cells.2.2.2.2.2.2.2.2.1
    replace y45 : wr.cell? ⟨p, 45, none⟩ = some (.bool false) := by first | exact y45 | (rw [← HB.out.2.2.1]; exact y45)
    by_cases hlt : k < 3
    · have hk1 : (k : Int) < 3 := by omega
      have hk0 : (0 : Int) ≤ (k : Int) := by omega
      have hwi : IntKind.i64.wrap ((k : Int) + 1) = (k : Int) + 1 := by rw [IntKind.wrap_i64]; omega
      obtain ⟨W2, hW2, hr2, ho2, hnx⟩ := HGk.out.ready (keepBut.refl [] wr) (askK_item wr [] (20 + s.client) (k : Int)) (by simp [newIn])
      obtain ⟨X, hX⟩ : ∃ X, pkL ((SS.ask (k : Int)).from (20 + s.client)) nilV nilV nilV nilV nilV = X := ⟨_, rfl⟩
      have HXL := Lib.hid (show X.length = 87 ∧ ∀ u ∈ X, u.oneCell' = true from by rw [← hX]; exact ⟨pkL_len rqZero_name anZero_name, pkL_one rfl rfl rfl rfl rfl⟩)
      have HXC := Lib.hid ((askCellsK (20 + s.client) (k : Int)).trans (congrArg List.toArray hX))
      dsimp only at hW2 hr2 hnx
      rw [hX] at hW2 hr2 hnx
      have HQ := Lib.hid (And.intro hW2 (And.intro hr2 (And.intro ho2 hnx)))
      have HLE := Lib.hid (show D.length + 1 ≤ 5 by have h := HGk.out.len; simp only [List.length_append, List.length_take, List.length_nil, List.length_singleton] at h; omega)
      clear hW2 hr2 ho2 hnx hX
      go_wp2_with (first
        | (rw [HXC.out]; refine wpList_build_one _ _ rfl 64 (.tmp 91) rfl 44 iP zP X rfl Tryd.underlying64 HI.out.1 HI.out.2.2.2.1 (by rw [HI.out.2.1]; exact HXL.out.1.symm) (by have := HXL.out.1; omega) (by have := HXL.out.1; omega) HQ.out.1 ?_)
        | (refine wp_appendO _ rfl (.tmp 84) (.tmp 92) 64 rfl 44 iP zP 87 iP.bytes Tryd.underlying64 HI.out.1 HI.out.2.2.2.1 HI.out.2.1 rfl HI.out.2.2.2.2 (by decide) _ _ _ rfl HQ.out.2.2.1 (some ⟨wr.heap.size, 0, none⟩) wr.heap.size 1 1 X rfl HQ.out.2.1 HXL.out.2 (by decide) (Nat.le_trans (Nat.mul_le_mul HLE.out HI.out.2.2.1) (by decide)) (by have := HLE.out; simp only [maxLen]; omega) ?_; intro A' c' w6 o6 k6 n6; have h6 := HQ.out.2.2.2 A' c' w6 o6 k6 n6; rw [List.append_assoc, ← asksK_take s hlt, List.append_nil] at h6; have H6k := Lib.hid h6; clear h6 o6 k6 n6))
      go_roundw
      case rel => exact ⟨k + 1, _, _, by omega, rfl, H6k⟩
      case measure => simp only [intOf]; omega
    · obtain rfl : k = 3 := by omega
      go_wp2_with fail
      go_ret
      rw [← HA.out]
      have h6 := HGk.out
      rw [show s.asksK.take 3 = s.asksK from rfl] at h6
      exact ⟨_, _, _, rfl, h6⟩
set_option maxHeartbeats 4000000 in
theorem tickM_3 (hw : s.waits = true) (hb : 0 ≤ s.client ∧ s.client ≤ 2) (hl : 1 ≤ s.limit ∧ s.limit ≤ 1000) (ht : 0 ≤ s.ticks ∧ s.ticks ≤ 100000) (hn : s.req.env.length ≤ 1000000) (hm : ¬ s.most < s.ticks + 1) (hc : s.conf.chain = []) (hs : s.sent = true) (ha : ¬ (s.ticks + 1) % s.limit = 0) : Calls Tryd.prog 30 #[.pointer (some ⟨p, 0, none⟩)] w (tickMPost p (s.tickL, (s.setTicks (s.ticks + 1)).setSent (s.sent || decide (s.conf.chain ≠ []))) cv ev F w) := by
  obtain ⟨A, cc, g, rfl, _, h3, _⟩ := h.chain
  obtain ⟨n, hnl⟩ : ∃ n, s.conf.chain.length = n := ⟨_, rfl⟩
  have hnm : n ≤ 9223372036854775807 := by unfold maxLen at h3; omega
  have HN := Lib.hid hnl
  obtain rfl : n = 0 := by rw [← hnl, hc]; rfl
  obtain ⟨_, _, x2, x3, _, _, _, x44, _, _, x47, _⟩ := h.cells
  rw [hw] at x44
  have f47 := h.row.free 47
  obtain ⟨ht0, ht1⟩ := ht
  obtain ⟨hb1, hb2⟩ := hb
  have hwr : IntKind.i64.wrap (s.ticks + 1) = s.ticks + 1 := by rw [IntKind.wrap_i64]; omega
  have hw64 : wrap64 (s.ticks + 1) = s.ticks + 1 := by unfold wrap64; omega
  have hmd : (s.ticks + 1).tmod s.limit = (s.ticks + 1) % s.limit := Int.tmod_eq_emod_of_nonneg (by omega)
  have HE := Lib.hid (show s.tickL = [] ∧ (s.sent || decide (s.conf.chain ≠ [])) = true from by
    unfold SS.tickL
    simp [hc, hs, ha, ifL])
  have H0 := Lib.hid h
  have HB := Lib.hid (And.intro (And.intro hb1 hb2) (And.intro hn (And.intro hs hc)))
  have ha2 : ((s.ticks + 1) % s.limit == 0) = false := by simp [ha]
  have hl0 : ¬ s.limit = 0 := by omega
  have hl2 : (s.limit == 0) = false := by simp; omega
  have hm2 : s.ticks + 1 ≤ s.most := by omega
  have HA := Lib.hid (show (([] : List PK), (s.setTicks (s.ticks + 1))) = (s.tickL, (s.setTicks (s.ticks + 1)).setSent (s.sent || decide (s.conf.chain ≠ []))) by rw [HE.out.1, HE.out.2]; exact congrArg (Prod.mk _) (setSent_self hs _).symm)
  obtain ⟨z, hz⟩ : ∃ z, (s.tickL, (s.setTicks (s.ticks + 1)).setSent (s.sent || decide (s.conf.chain ≠ []))) = z := ⟨_, rfl⟩
  rw [hz] at HA ⊢
  obtain ⟨iP, zP, hiP, hsP, hbP, hzP, hcP⟩ := info_P
  have HI := Lib.hid (And.intro hiP (And.intro hsP (And.intro hbP (And.intro hzP hcP))))
  have hw20 : IntKind.i64.wrap (20 + s.client) = 20 + s.client := by rw [IntKind.wrap_i64]; omega
  clear hz h hw hs hc hl ht0 ht1 hn ha hm hiP hsP hbP hzP hcP h3 hnl
  go_enter Tryd.func30, Tryd.ntmps30
  go_upto_region 4 with fail
  go_quiet (fail)
  have g1 := ((goesM.start H0.out (s.ticks + 1)).drewN nq)
  generalize (w.setCell ⟨p, 47, none⟩ (.int .i64 (s.ticks + 1))).drewN nq = w1 at g1 ⊢
  obtain ⟨_, _, y2, _, _, _, y6, _, y45, _, y47, _⟩ := g1.is.cells
  replace y2 : w1.cell? ⟨p, 2, none⟩ = some (.int .i64 s.limit) := y2
  replace y47 : w1.cell? ⟨p, 47, none⟩ = some (.int .i64 (s.ticks + 1)) := y47
  replace y45 : w1.cell? ⟨p, 45, none⟩ = some (.bool true) := by rw [← HB.out.2.2.1]; exact y45
  replace y6 : w1.cell? ⟨p, 6, none⟩ = some (.slice A 0 cc) := by rw [← HN.out]; exact y6
  have HG := Lib.hid g1
  clear g1 x2 x3 x44 x47 f47
  go_upto_region 11 with fail
  go_region
  have g2 := HG.out.drew
  generalize w1.drew = w2 at g2 ⊢
  have HG2 := Lib.hid g2
  clear g2 HG y2 y47 y45 y6 hm2 ha2 hmd hw64 hwr
  go_wp2_with fail
  go_loopw [3, 7] (fun v3 v7 wx => ∃ (k : Nat) (D : List (PK × List Value)) (K : List Nat), k ≤ 0 ∧ v7 = .int .i64 (k : Int) ∧ Hid (goesM p (s.setTicks (s.ticks + 1)) (.slice A s.conf.chain.length cc) ev F w ([] ++ s.asksK.take k) v3 D K wx)) (fun _ v7 _ => 3 - (intOf v7).toNat)
  case atStart => exact ⟨0, _, _, by omega, rfl, HG2⟩
  case round =>
    obtain ⟨k, D, K, hk, rfl, HGk⟩ := hrel
    have y0 : wr.cell? ⟨p, 0, none⟩ = some (.int .i64 s.client) := HGk.out.is.cells.1
    have y45 := HGk.out.is.cells.2.2.2.2.2.2.2.2.1
    replace y45 : wr.cell? ⟨p, 45, none⟩ = some (.bool true) := by first | exact y45 | (rw [← HB.out.2.2.1]; exact y45)
    obtain rfl : k = 0 := by omega
    go_wp2_with fail
    go_ret
    rw [← HA.out]
    have h6 := HGk.out
    rw [show s.asksK.take 0 = [] from rfl, List.append_nil] at h6
    exact ⟨_, _, _, rfl, h6⟩
set_option maxHeartbeats 4000000 in
theorem tickM_4 (hw : s.waits = true) (hb : 0 ≤ s.client ∧ s.client ≤ 2) (hl : 1 ≤ s.limit ∧ s.limit ≤ 1000) (ht : 0 ≤ s.ticks ∧ s.ticks ≤ 100000) (hn : s.req.env.length ≤ 1000000) (hm : ¬ s.most < s.ticks + 1) (hc : s.conf.chain = []) (hs : s.sent = true) (ha : (s.ticks + 1) % s.limit = 0) : Calls Tryd.prog 30 #[.pointer (some ⟨p, 0, none⟩)] w (tickMPost p (s.tickL, (s.setTicks (s.ticks + 1)).setSent (s.sent || decide (s.conf.chain ≠ []))) cv ev F w) := by
  obtain ⟨A, cc, g, rfl, _, h3, _⟩ := h.chain
  obtain ⟨n, hnl⟩ : ∃ n, s.conf.chain.length = n := ⟨_, rfl⟩
  have hnm : n ≤ 9223372036854775807 := by unfold maxLen at h3; omega
  have HN := Lib.hid hnl
  obtain rfl : n = 0 := by rw [← hnl, hc]; rfl
  obtain ⟨_, _, x2, x3, _, _, _, x44, _, _, x47, _⟩ := h.cells
  rw [hw] at x44
  have f47 := h.row.free 47
  obtain ⟨ht0, ht1⟩ := ht
  obtain ⟨hb1, hb2⟩ := hb
  have hwr : IntKind.i64.wrap (s.ticks + 1) = s.ticks + 1 := by rw [IntKind.wrap_i64]; omega
  have hw64 : wrap64 (s.ticks + 1) = s.ticks + 1 := by unfold wrap64; omega
  have hmd : (s.ticks + 1).tmod s.limit = (s.ticks + 1) % s.limit := Int.tmod_eq_emod_of_nonneg (by omega)
  have HE := Lib.hid (show s.tickL = s.asksK ∧ (s.sent || decide (s.conf.chain ≠ [])) = true from by
    unfold SS.tickL
    simp [hc, hs, ha, ifL])
  have H0 := Lib.hid h
  have HB := Lib.hid (And.intro (And.intro hb1 hb2) (And.intro hn (And.intro hs hc)))
  have ha2 : ((s.ticks + 1) % s.limit == 0) = true := by simp [ha]
  have hl0 : ¬ s.limit = 0 := by omega
  have hl2 : (s.limit == 0) = false := by simp; omega
  have hm2 : s.ticks + 1 ≤ s.most := by omega
  have HA := Lib.hid (show ((s.asksK : List PK), (s.setTicks (s.ticks + 1))) = (s.tickL, (s.setTicks (s.ticks + 1)).setSent (s.sent || decide (s.conf.chain ≠ []))) by rw [HE.out.1, HE.out.2]; exact congrArg (Prod.mk _) (setSent_self hs _).symm)
  obtain ⟨z, hz⟩ : ∃ z, (s.tickL, (s.setTicks (s.ticks + 1)).setSent (s.sent || decide (s.conf.chain ≠ []))) = z := ⟨_, rfl⟩
  rw [hz] at HA ⊢
  obtain ⟨iP, zP, hiP, hsP, hbP, hzP, hcP⟩ := info_P
  have HI := Lib.hid (And.intro hiP (And.intro hsP (And.intro hbP (And.intro hzP hcP))))
  have hw20 : IntKind.i64.wrap (20 + s.client) = 20 + s.client := by rw [IntKind.wrap_i64]; omega
  clear hz h hw hs hc hl ht0 ht1 hn ha hm hiP hsP hbP hzP hcP h3 hnl
  go_enter Tryd.func30, Tryd.ntmps30
  go_upto_region 4 with fail
  go_quiet (fail)
  have g1 := ((goesM.start H0.out (s.ticks + 1)).drewN nq)
  generalize (w.setCell ⟨p, 47, none⟩ (.int .i64 (s.ticks + 1))).drewN nq = w1 at g1 ⊢
  obtain ⟨_, _, y2, _, _, _, y6, _, y45, _, y47, _⟩ := g1.is.cells
  replace y2 : w1.cell? ⟨p, 2, none⟩ = some (.int .i64 s.limit) := y2
  replace y47 : w1.cell? ⟨p, 47, none⟩ = some (.int .i64 (s.ticks + 1)) := y47
  replace y45 : w1.cell? ⟨p, 45, none⟩ = some (.bool true) := by rw [← HB.out.2.2.1]; exact y45
  replace y6 : w1.cell? ⟨p, 6, none⟩ = some (.slice A 0 cc) := by rw [← HN.out]; exact y6
  have HG := Lib.hid g1
  clear g1 x2 x3 x44 x47 f47
  go_upto_region 11 with fail
  go_region
  have g2 := HG.out.drew
  generalize w1.drew = w2 at g2 ⊢
  have HG2 := Lib.hid g2
  clear g2 HG y2 y47 y45 y6 hm2 ha2 hmd hw64 hwr
  go_wp2_with fail
  go_loopw [3, 7] (fun v3 v7 wx => ∃ (k : Nat) (D : List (PK × List Value)) (K : List Nat), k ≤ 3 ∧ v7 = .int .i64 (k : Int) ∧ Hid (goesM p (s.setTicks (s.ticks + 1)) (.slice A s.conf.chain.length cc) ev F w ([] ++ s.asksK.take k) v3 D K wx)) (fun _ v7 _ => 3 - (intOf v7).toNat)
  case atStart => exact ⟨0, _, _, by omega, rfl, HG2⟩
  case round =>
    obtain ⟨k, D, K, hk, rfl, HGk⟩ := hrel
    have y0 : wr.cell? ⟨p, 0, none⟩ = some (.int .i64 s.client) := HGk.out.is.cells.1
    have y45 := HGk.out.is.cells.2.2.2.2.2.2.2.2.1
    replace y45 : wr.cell? ⟨p, 45, none⟩ = some (.bool true) := by first | exact y45 | (rw [← HB.out.2.2.1]; exact y45)
    by_cases hlt : k < 3
    · have hk1 : (k : Int) < 3 := by omega
      have hk0 : (0 : Int) ≤ (k : Int) := by omega
      have hwi : IntKind.i64.wrap ((k : Int) + 1) = (k : Int) + 1 := by rw [IntKind.wrap_i64]; omega
      obtain ⟨W2, hW2, hr2, ho2, hnx⟩ := HGk.out.ready (keepBut.refl [] wr) (askK_item wr [] (20 + s.client) (k : Int)) (by simp [newIn])
      obtain ⟨X, hX⟩ : ∃ X, pkL ((SS.ask (k : Int)).from (20 + s.client)) nilV nilV nilV nilV nilV = X := ⟨_, rfl⟩
      have HXL := Lib.hid (show X.length = 87 ∧ ∀ u ∈ X, u.oneCell' = true from by rw [← hX]; exact ⟨pkL_len rqZero_name anZero_name, pkL_one rfl rfl rfl rfl rfl⟩)
      have HXC := Lib.hid ((askCellsK (20 + s.client) (k : Int)).trans (congrArg List.toArray hX))
      dsimp only at hW2 hr2 hnx
      rw [hX] at hW2 hr2 hnx
      have HQ := Lib.hid (And.intro hW2 (And.intro hr2 (And.intro ho2 hnx)))
      have HLE := Lib.hid (show D.length + 1 ≤ 5 by have h := HGk.out.len; simp only [List.length_append, List.length_take, List.length_nil, List.length_singleton] at h; omega)
      clear hW2 hr2 ho2 hnx hX
      go_wp2_with (first
        | (rw [HXC.out]; refine wpList_build_one _ _ rfl 64 (.tmp 91) rfl 44 iP zP X rfl Tryd.underlying64 HI.out.1 HI.out.2.2.2.1 (by rw [HI.out.2.1]; exact HXL.out.1.symm) (by have := HXL.out.1; omega) (by have := HXL.out.1; omega) HQ.out.1 ?_)
        | (refine wp_appendO _ rfl (.tmp 84) (.tmp 92) 64 rfl 44 iP zP 87 iP.bytes Tryd.underlying64 HI.out.1 HI.out.2.2.2.1 HI.out.2.1 rfl HI.out.2.2.2.2 (by decide) _ _ _ rfl HQ.out.2.2.1 (some ⟨wr.heap.size, 0, none⟩) wr.heap.size 1 1 X rfl HQ.out.2.1 HXL.out.2 (by decide) (Nat.le_trans (Nat.mul_le_mul HLE.out HI.out.2.2.1) (by decide)) (by have := HLE.out; simp only [maxLen]; omega) ?_; intro A' c' w6 o6 k6 n6; have h6 := HQ.out.2.2.2 A' c' w6 o6 k6 n6; rw [List.append_assoc, ← asksK_take s hlt, List.append_nil] at h6; have H6k := Lib.hid h6; clear h6 o6 k6 n6))
      go_roundw
      case rel => exact ⟨k + 1, _, _, by omega, rfl, H6k⟩
      case measure => simp only [intOf]; omega
    · obtain rfl : k = 3 := by omega
      go_wp2_with fail
      go_ret
      rw [← HA.out]
      have h6 := HGk.out
      rw [show s.asksK.take 3 = s.asksK from rfl] at h6
      exact ⟨_, _, _, rfl, h6⟩
set_option maxHeartbeats 4000000 in
theorem tickM_5 (hw : s.waits = true) (hb : 0 ≤ s.client ∧ s.client ≤ 2) (hl : 1 ≤ s.limit ∧ s.limit ≤ 1000) (ht : 0 ≤ s.ticks ∧ s.ticks ≤ 100000) (hn : s.req.env.length ≤ 1000000) (hm : ¬ s.most < s.ticks + 1) (hc : s.conf.chain ≠ []) (hs : s.sent = false) (ha : ¬ (s.ticks + 1) % s.limit = 0) : Calls Tryd.prog 30 #[.pointer (some ⟨p, 0, none⟩)] w (tickMPost p (s.tickL, (s.setTicks (s.ticks + 1)).setSent (s.sent || decide (s.conf.chain ≠ []))) cv ev F w) := by
  obtain ⟨A, cc, g, rfl, _, h3, _⟩ := h.chain
  obtain ⟨n, hnl⟩ : ∃ n, s.conf.chain.length = n := ⟨_, rfl⟩
  have hnm : n ≤ 9223372036854775807 := by unfold maxLen at h3; omega
  have HN := Lib.hid hnl
  have hn0 : 0 < n := by rw [← hnl]; exact List.length_pos_iff.2 hc
  obtain ⟨_, _, x2, x3, _, _, _, x44, _, _, x47, _⟩ := h.cells
  rw [hw] at x44
  have f47 := h.row.free 47
  obtain ⟨ht0, ht1⟩ := ht
  obtain ⟨hb1, hb2⟩ := hb
  have hwr : IntKind.i64.wrap (s.ticks + 1) = s.ticks + 1 := by rw [IntKind.wrap_i64]; omega
  have hw64 : wrap64 (s.ticks + 1) = s.ticks + 1 := by unfold wrap64; omega
  have hmd : (s.ticks + 1).tmod s.limit = (s.ticks + 1) % s.limit := Int.tmod_eq_emod_of_nonneg (by omega)
  have HE := Lib.hid (show s.tickL = [s.reqK] ∧ (s.sent || decide (s.conf.chain ≠ [])) = true from by
    unfold SS.tickL
    simp [hc, hs, ha, ifL])
  have H0 := Lib.hid h
  have HB := Lib.hid (And.intro (And.intro hb1 hb2) (And.intro hn (And.intro hs hc)))
  have ha2 : ((s.ticks + 1) % s.limit == 0) = false := by simp [ha]
  have hl0 : ¬ s.limit = 0 := by omega
  have hl2 : (s.limit == 0) = false := by simp; omega
  have hm2 : s.ticks + 1 ≤ s.most := by omega
  have HA := Lib.hid (show (([s.reqK] : List PK), ((s.setTicks (s.ticks + 1)).setSent true)) = (s.tickL, (s.setTicks (s.ticks + 1)).setSent (s.sent || decide (s.conf.chain ≠ []))) by rw [HE.out.1, HE.out.2])
  obtain ⟨z, hz⟩ : ∃ z, (s.tickL, (s.setTicks (s.ticks + 1)).setSent (s.sent || decide (s.conf.chain ≠ []))) = z := ⟨_, rfl⟩
  rw [hz] at HA ⊢
  obtain ⟨iP, zP, hiP, hsP, hbP, hzP, hcP⟩ := info_P
  have HI := Lib.hid (And.intro hiP (And.intro hsP (And.intro hbP (And.intro hzP hcP))))
  have hw20 : IntKind.i64.wrap (20 + s.client) = 20 + s.client := by rw [IntKind.wrap_i64]; omega
  clear hz h hw hs hc hl ht0 ht1 hn ha hm hiP hsP hbP hzP hcP h3 hnl
  go_enter Tryd.func30, Tryd.ntmps30
  go_upto_region 4 with fail
  go_quiet (fail)
  have g1 := ((goesM.start H0.out (s.ticks + 1)).drewN nq)
  generalize (w.setCell ⟨p, 47, none⟩ (.int .i64 (s.ticks + 1))).drewN nq = w1 at g1 ⊢
  obtain ⟨_, _, y2, _, _, _, y6, _, y45, _, y47, _⟩ := g1.is.cells
  replace y2 : w1.cell? ⟨p, 2, none⟩ = some (.int .i64 s.limit) := y2
  replace y47 : w1.cell? ⟨p, 47, none⟩ = some (.int .i64 (s.ticks + 1)) := y47
  replace y45 : w1.cell? ⟨p, 45, none⟩ = some (.bool false) := by rw [← HB.out.2.2.1]; exact y45
  replace y6 : w1.cell? ⟨p, 6, none⟩ = some (.slice A n cc) := by rw [← HN.out]; exact y6
  have HG := Lib.hid g1
  clear g1 x2 x3 x44 x47 f47
  go_upto_region 11 with fail
  go_region
  have g2 := HG.out.drew
  generalize w1.drew = w2 at g2 ⊢
  have HG2 := Lib.hid g2
  clear g2 HG y2 y47 y45 y6 hm2 ha2 hmd hw64 hwr
  have y45 := HG2.out.is.cells.2.2.2.2.2.2.2.2.1
  have f45 := HG2.out.is.row.free 45
  go_upto_region 14 with fail
  have g3 := HG2.out.poke (HG2.out.is.sent true)
  generalize w2.setCell ⟨p, 45, none⟩ (.bool true) = w3 at g3 ⊢
  have HG3 := Lib.hid g3
  clear g3 HG2 y45 f45
  have PR := Lib.hid (fun (W : World) (hq : goesM p ((s.setTicks (s.ticks + 1)).setSent true) (.slice A s.conf.chain.length cc) ev F w [] (.slice none 0 0) [] [] W) => show Calls Tryd.prog 55 #[.pointer (some ⟨p, 0, none⟩)] W (requestPost s W) from hq.request HB.out.2.2.2 HB.out.1 HB.out.2.1)
  go_wp2_with (first
    | (go_at_call 55; (with_reducible refine (PR.out _ HG3.out).mono ?_); rintro e w4 ⟨ev', G', rfl, hv', hG', k4⟩; obtain ⟨W2, hW2, hr2, ho2, hnx⟩ := HG3.out.ready k4 (reqK_item s hv') hG'; obtain ⟨X, hX⟩ : ∃ X, pkL s.reqK ev' nilV nilV nilV nilV = X := ⟨_, rfl⟩; have HXL := Lib.hid (show X.length = 87 ∧ ∀ u ∈ X, u.oneCell' = true from by rw [← hX]; exact ⟨pkL_len hv'.1 anZero_name, pkL_one hv'.2.one rfl rfl rfl rfl⟩); dsimp only at hW2 hr2 hnx; rw [hX] at hW2 hr2 hnx ⊢; have HQ := Lib.hid (And.intro hW2 (And.intro hr2 (And.intro ho2 hnx))); clear hv' hG' k4 hW2 hr2 ho2 hnx hX)
    | (refine wpList_build_one _ _ rfl 64 (.tmp 67) rfl 44 iP zP X rfl Tryd.underlying64 HI.out.1 HI.out.2.2.2.1 (by rw [HI.out.2.1]; exact HXL.out.1.symm) (by have := HXL.out.1; omega) (by have := HXL.out.1; omega) HQ.out.1 ?_)
    | (refine wp_appendO _ rfl (.tmp 65) (.tmp 68) 64 rfl 44 iP zP 87 iP.bytes Tryd.underlying64 HI.out.1 HI.out.2.2.2.1 HI.out.2.1 rfl HI.out.2.2.2.2 (by decide) _ _ _ rfl HQ.out.2.2.1 (some ⟨w4.heap.size, 0, none⟩) w4.heap.size 1 1 X rfl HQ.out.2.1 HXL.out.2 (by decide) (Nat.le_trans (Nat.mul_le_mul (show _ ≤ 5 from (show 0 + 1 ≤ 5 by decide)) HI.out.2.2.1) (by decide)) (by simp only [List.length_nil, maxLen]; omega) ?_; intro A' c' w6 o6 k6 n6; have h6 := HQ.out.2.2.2 A' c' w6 o6 k6 n6; have H6 := Lib.hid h6; clear h6 o6 k6 n6))
  generalize (Value.slice A' (([] : List (PK × List Value)).length + 1) c') = v6 at H6 ⊢
  generalize ([] : List (PK × List Value)) ++ [(s.reqK, X)] = D6 at H6
  clear PR HG3 HQ
  go_loopw [3, 7] (fun v3 v7 wx => ∃ (k : Nat) (D : List (PK × List Value)) (K : List Nat), k ≤ 0 ∧ v7 = .int .i64 (k : Int) ∧ Hid (goesM p ((s.setTicks (s.ticks + 1)).setSent true) (.slice A s.conf.chain.length cc) ev F w ([s.reqK] ++ s.asksK.take k) v3 D K wx)) (fun _ v7 _ => 3 - (intOf v7).toNat)
  case atStart => exact ⟨0, _, _, by omega, rfl, H6⟩
  case round =>
    obtain ⟨k, D, K, hk, rfl, HGk⟩ := hrel
    have y0 : wr.cell? ⟨p, 0, none⟩ = some (.int .i64 s.client) := HGk.out.is.cells.1
    have y45 := HGk.out.is.cells.2.2.2.2.2.2.2.2.1
    replace y45 : wr.cell? ⟨p, 45, none⟩ = some (.bool true) := by first | exact y45 | (rw [← HB.out.2.2.1]; exact y45)
    obtain rfl : k = 0 := by omega
    go_wp2_with fail
    go_ret
    rw [← HA.out]
    have h6 := HGk.out
    rw [show s.asksK.take 0 = [] from rfl, List.append_nil] at h6
    exact ⟨_, _, _, rfl, h6⟩
set_option maxHeartbeats 4000000 in
theorem tickM_6 (hw : s.waits = true) (hb : 0 ≤ s.client ∧ s.client ≤ 2) (hl : 1 ≤ s.limit ∧ s.limit ≤ 1000) (ht : 0 ≤ s.ticks ∧ s.ticks ≤ 100000) (hn : s.req.env.length ≤ 1000000) (hm : ¬ s.most < s.ticks + 1) (hc : s.conf.chain ≠ []) (hs : s.sent = false) (ha : (s.ticks + 1) % s.limit = 0) : Calls Tryd.prog 30 #[.pointer (some ⟨p, 0, none⟩)] w (tickMPost p (s.tickL, (s.setTicks (s.ticks + 1)).setSent (s.sent || decide (s.conf.chain ≠ []))) cv ev F w) := by
  obtain ⟨A, cc, g, rfl, _, h3, _⟩ := h.chain
  obtain ⟨n, hnl⟩ : ∃ n, s.conf.chain.length = n := ⟨_, rfl⟩
  have hnm : n ≤ 9223372036854775807 := by unfold maxLen at h3; omega
  have HN := Lib.hid hnl
  have hn0 : 0 < n := by rw [← hnl]; exact List.length_pos_iff.2 hc
  obtain ⟨_, _, x2, x3, _, _, _, x44, _, _, x47, _⟩ := h.cells
  rw [hw] at x44
  have f47 := h.row.free 47
  obtain ⟨ht0, ht1⟩ := ht
  obtain ⟨hb1, hb2⟩ := hb
  have hwr : IntKind.i64.wrap (s.ticks + 1) = s.ticks + 1 := by rw [IntKind.wrap_i64]; omega
  have hw64 : wrap64 (s.ticks + 1) = s.ticks + 1 := by unfold wrap64; omega
  have hmd : (s.ticks + 1).tmod s.limit = (s.ticks + 1) % s.limit := Int.tmod_eq_emod_of_nonneg (by omega)
  have HE := Lib.hid (show s.tickL = [s.reqK] ++ s.asksK ∧ (s.sent || decide (s.conf.chain ≠ [])) = true from by
    unfold SS.tickL
    simp [hc, hs, ha, ifL])
  have H0 := Lib.hid h
  have HB := Lib.hid (And.intro (And.intro hb1 hb2) (And.intro hn (And.intro hs hc)))
  have ha2 : ((s.ticks + 1) % s.limit == 0) = true := by simp [ha]
  have hl0 : ¬ s.limit = 0 := by omega
  have hl2 : (s.limit == 0) = false := by simp; omega
  have hm2 : s.ticks + 1 ≤ s.most := by omega
  have HA := Lib.hid (show (([s.reqK] ++ s.asksK : List PK), ((s.setTicks (s.ticks + 1)).setSent true)) = (s.tickL, (s.setTicks (s.ticks + 1)).setSent (s.sent || decide (s.conf.chain ≠ []))) by rw [HE.out.1, HE.out.2])
  obtain ⟨z, hz⟩ : ∃ z, (s.tickL, (s.setTicks (s.ticks + 1)).setSent (s.sent || decide (s.conf.chain ≠ []))) = z := ⟨_, rfl⟩
  rw [hz] at HA ⊢
  obtain ⟨iP, zP, hiP, hsP, hbP, hzP, hcP⟩ := info_P
  have HI := Lib.hid (And.intro hiP (And.intro hsP (And.intro hbP (And.intro hzP hcP))))
  have hw20 : IntKind.i64.wrap (20 + s.client) = 20 + s.client := by rw [IntKind.wrap_i64]; omega
  clear hz h hw hs hc hl ht0 ht1 hn ha hm hiP hsP hbP hzP hcP h3 hnl
  go_enter Tryd.func30, Tryd.ntmps30
  go_upto_region 4 with fail
  go_quiet (fail)
  have g1 := ((goesM.start H0.out (s.ticks + 1)).drewN nq)
  generalize (w.setCell ⟨p, 47, none⟩ (.int .i64 (s.ticks + 1))).drewN nq = w1 at g1 ⊢
  obtain ⟨_, _, y2, _, _, _, y6, _, y45, _, y47, _⟩ := g1.is.cells
  replace y2 : w1.cell? ⟨p, 2, none⟩ = some (.int .i64 s.limit) := y2
  replace y47 : w1.cell? ⟨p, 47, none⟩ = some (.int .i64 (s.ticks + 1)) := y47
  replace y45 : w1.cell? ⟨p, 45, none⟩ = some (.bool false) := by rw [← HB.out.2.2.1]; exact y45
  replace y6 : w1.cell? ⟨p, 6, none⟩ = some (.slice A n cc) := by rw [← HN.out]; exact y6
  have HG := Lib.hid g1
  clear g1 x2 x3 x44 x47 f47
  go_upto_region 11 with fail
  go_region
  have g2 := HG.out.drew
  generalize w1.drew = w2 at g2 ⊢
  have HG2 := Lib.hid g2
  clear g2 HG y2 y47 y45 y6 hm2 ha2 hmd hw64 hwr
  have y45 := HG2.out.is.cells.2.2.2.2.2.2.2.2.1
  have f45 := HG2.out.is.row.free 45
  go_upto_region 14 with fail
  have g3 := HG2.out.poke (HG2.out.is.sent true)
  generalize w2.setCell ⟨p, 45, none⟩ (.bool true) = w3 at g3 ⊢
  have HG3 := Lib.hid g3
  clear g3 HG2 y45 f45
  have PR := Lib.hid (fun (W : World) (hq : goesM p ((s.setTicks (s.ticks + 1)).setSent true) (.slice A s.conf.chain.length cc) ev F w [] (.slice none 0 0) [] [] W) => show Calls Tryd.prog 55 #[.pointer (some ⟨p, 0, none⟩)] W (requestPost s W) from hq.request HB.out.2.2.2 HB.out.1 HB.out.2.1)
  go_wp2_with (first
    | (go_at_call 55; (with_reducible refine (PR.out _ HG3.out).mono ?_); rintro e w4 ⟨ev', G', rfl, hv', hG', k4⟩; obtain ⟨W2, hW2, hr2, ho2, hnx⟩ := HG3.out.ready k4 (reqK_item s hv') hG'; obtain ⟨X, hX⟩ : ∃ X, pkL s.reqK ev' nilV nilV nilV nilV = X := ⟨_, rfl⟩; have HXL := Lib.hid (show X.length = 87 ∧ ∀ u ∈ X, u.oneCell' = true from by rw [← hX]; exact ⟨pkL_len hv'.1 anZero_name, pkL_one hv'.2.one rfl rfl rfl rfl⟩); dsimp only at hW2 hr2 hnx; rw [hX] at hW2 hr2 hnx ⊢; have HQ := Lib.hid (And.intro hW2 (And.intro hr2 (And.intro ho2 hnx))); clear hv' hG' k4 hW2 hr2 ho2 hnx hX)
    | (refine wpList_build_one _ _ rfl 64 (.tmp 67) rfl 44 iP zP X rfl Tryd.underlying64 HI.out.1 HI.out.2.2.2.1 (by rw [HI.out.2.1]; exact HXL.out.1.symm) (by have := HXL.out.1; omega) (by have := HXL.out.1; omega) HQ.out.1 ?_)
    | (refine wp_appendO _ rfl (.tmp 65) (.tmp 68) 64 rfl 44 iP zP 87 iP.bytes Tryd.underlying64 HI.out.1 HI.out.2.2.2.1 HI.out.2.1 rfl HI.out.2.2.2.2 (by decide) _ _ _ rfl HQ.out.2.2.1 (some ⟨w4.heap.size, 0, none⟩) w4.heap.size 1 1 X rfl HQ.out.2.1 HXL.out.2 (by decide) (Nat.le_trans (Nat.mul_le_mul (show _ ≤ 5 from (show 0 + 1 ≤ 5 by decide)) HI.out.2.2.1) (by decide)) (by simp only [List.length_nil, maxLen]; omega) ?_; intro A' c' w6 o6 k6 n6; have h6 := HQ.out.2.2.2 A' c' w6 o6 k6 n6; have H6 := Lib.hid h6; clear h6 o6 k6 n6))
  generalize (Value.slice A' (([] : List (PK × List Value)).length + 1) c') = v6 at H6 ⊢
  generalize ([] : List (PK × List Value)) ++ [(s.reqK, X)] = D6 at H6
  clear PR HG3 HQ
  go_loopw [3, 7] (fun v3 v7 wx => ∃ (k : Nat) (D : List (PK × List Value)) (K : List Nat), k ≤ 3 ∧ v7 = .int .i64 (k : Int) ∧ Hid (goesM p ((s.setTicks (s.ticks + 1)).setSent true) (.slice A s.conf.chain.length cc) ev F w ([s.reqK] ++ s.asksK.take k) v3 D K wx)) (fun _ v7 _ => 3 - (intOf v7).toNat)
  case atStart => exact ⟨0, _, _, by omega, rfl, H6⟩
  case round =>
    obtain ⟨k, D, K, hk, rfl, HGk⟩ := hrel
    have y0 : wr.cell? ⟨p, 0, none⟩ = some (.int .i64 s.client) := HGk.out.is.cells.1
    have y45 := HGk.out.is.cells.2.2.2.2.2.2.2.2.1
    replace y45 : wr.cell? ⟨p, 45, none⟩ = some (.bool true) := by first | exact y45 | (rw [← HB.out.2.2.1]; exact y45)
    by_cases hlt : k < 3
    · have hk1 : (k : Int) < 3 := by omega
      have hk0 : (0 : Int) ≤ (k : Int) := by omega
      have hwi : IntKind.i64.wrap ((k : Int) + 1) = (k : Int) + 1 := by rw [IntKind.wrap_i64]; omega
      obtain ⟨W2, hW2, hr2, ho2, hnx⟩ := HGk.out.ready (keepBut.refl [] wr) (askK_item wr [] (20 + s.client) (k : Int)) (by simp [newIn])
      obtain ⟨X, hX⟩ : ∃ X, pkL ((SS.ask (k : Int)).from (20 + s.client)) nilV nilV nilV nilV nilV = X := ⟨_, rfl⟩
      have HXL := Lib.hid (show X.length = 87 ∧ ∀ u ∈ X, u.oneCell' = true from by rw [← hX]; exact ⟨pkL_len rqZero_name anZero_name, pkL_one rfl rfl rfl rfl rfl⟩)
      have HXC := Lib.hid ((askCellsK (20 + s.client) (k : Int)).trans (congrArg List.toArray hX))
      dsimp only at hW2 hr2 hnx
      rw [hX] at hW2 hr2 hnx
      have HQ := Lib.hid (And.intro hW2 (And.intro hr2 (And.intro ho2 hnx)))
      have HLE := Lib.hid (show D.length + 1 ≤ 5 by have h := HGk.out.len; simp only [List.length_append, List.length_take, List.length_nil, List.length_singleton] at h; omega)
      clear hW2 hr2 ho2 hnx hX
      go_wp2_with (first
        | (rw [HXC.out]; refine wpList_build_one _ _ rfl 64 (.tmp 91) rfl 44 iP zP X rfl Tryd.underlying64 HI.out.1 HI.out.2.2.2.1 (by rw [HI.out.2.1]; exact HXL.out.1.symm) (by have := HXL.out.1; omega) (by have := HXL.out.1; omega) HQ.out.1 ?_)
        | (refine wp_appendO _ rfl (.tmp 84) (.tmp 92) 64 rfl 44 iP zP 87 iP.bytes Tryd.underlying64 HI.out.1 HI.out.2.2.2.1 HI.out.2.1 rfl HI.out.2.2.2.2 (by decide) _ _ _ rfl HQ.out.2.2.1 (some ⟨wr.heap.size, 0, none⟩) wr.heap.size 1 1 X rfl HQ.out.2.1 HXL.out.2 (by decide) (Nat.le_trans (Nat.mul_le_mul HLE.out HI.out.2.2.1) (by decide)) (by have := HLE.out; simp only [maxLen]; omega) ?_; intro A' c' w6 o6 k6 n6; have h6 := HQ.out.2.2.2 A' c' w6 o6 k6 n6; rw [List.append_assoc, ← asksK_take s hlt, List.append_nil] at h6; have H6k := Lib.hid h6; clear h6 o6 k6 n6))
      go_roundw
      case rel => exact ⟨k + 1, _, _, by omega, rfl, H6k⟩
      case measure => simp only [intOf]; omega
    · obtain rfl : k = 3 := by omega
      go_wp2_with fail
      go_ret
      rw [← HA.out]
      have h6 := HGk.out
      rw [show s.asksK.take 3 = s.asksK from rfl] at h6
      exact ⟨_, _, _, rfl, h6⟩
set_option maxHeartbeats 4000000 in
theorem tickM_7 (hw : s.waits = true) (hb : 0 ≤ s.client ∧ s.client ≤ 2) (hl : 1 ≤ s.limit ∧ s.limit ≤ 1000) (ht : 0 ≤ s.ticks ∧ s.ticks ≤ 100000) (hn : s.req.env.length ≤ 1000000) (hm : ¬ s.most < s.ticks + 1) (hc : s.conf.chain ≠ []) (hs : s.sent = true) (ha : ¬ (s.ticks + 1) % s.limit = 0) : Calls Tryd.prog 30 #[.pointer (some ⟨p, 0, none⟩)] w (tickMPost p (s.tickL, (s.setTicks (s.ticks + 1)).setSent (s.sent || decide (s.conf.chain ≠ []))) cv ev F w) := by
  obtain ⟨A, cc, g, rfl, _, h3, _⟩ := h.chain
  obtain ⟨n, hnl⟩ : ∃ n, s.conf.chain.length = n := ⟨_, rfl⟩
  have hnm : n ≤ 9223372036854775807 := by unfold maxLen at h3; omega
  have HN := Lib.hid hnl
  have hn0 : 0 < n := by rw [← hnl]; exact List.length_pos_iff.2 hc
  obtain ⟨_, _, x2, x3, _, _, _, x44, _, _, x47, _⟩ := h.cells
  rw [hw] at x44
  have f47 := h.row.free 47
  obtain ⟨ht0, ht1⟩ := ht
  obtain ⟨hb1, hb2⟩ := hb
  have hwr : IntKind.i64.wrap (s.ticks + 1) = s.ticks + 1 := by rw [IntKind.wrap_i64]; omega
  have hw64 : wrap64 (s.ticks + 1) = s.ticks + 1 := by unfold wrap64; omega
  have hmd : (s.ticks + 1).tmod s.limit = (s.ticks + 1) % s.limit := Int.tmod_eq_emod_of_nonneg (by omega)
  have HE := Lib.hid (show s.tickL = [] ∧ (s.sent || decide (s.conf.chain ≠ [])) = true from by
    unfold SS.tickL
    simp [hc, hs, ha, ifL])
  have H0 := Lib.hid h
  have HB := Lib.hid (And.intro (And.intro hb1 hb2) (And.intro hn (And.intro hs hc)))
  have ha2 : ((s.ticks + 1) % s.limit == 0) = false := by simp [ha]
  have hl0 : ¬ s.limit = 0 := by omega
  have hl2 : (s.limit == 0) = false := by simp; omega
  have hm2 : s.ticks + 1 ≤ s.most := by omega
  have HA := Lib.hid (show (([] : List PK), (s.setTicks (s.ticks + 1))) = (s.tickL, (s.setTicks (s.ticks + 1)).setSent (s.sent || decide (s.conf.chain ≠ []))) by rw [HE.out.1, HE.out.2]; exact congrArg (Prod.mk _) (setSent_self hs _).symm)
  obtain ⟨z, hz⟩ : ∃ z, (s.tickL, (s.setTicks (s.ticks + 1)).setSent (s.sent || decide (s.conf.chain ≠ []))) = z := ⟨_, rfl⟩
  rw [hz] at HA ⊢
  obtain ⟨iP, zP, hiP, hsP, hbP, hzP, hcP⟩ := info_P
  have HI := Lib.hid (And.intro hiP (And.intro hsP (And.intro hbP (And.intro hzP hcP))))
  have hw20 : IntKind.i64.wrap (20 + s.client) = 20 + s.client := by rw [IntKind.wrap_i64]; omega
  clear hz h hw hs hc hl ht0 ht1 hn ha hm hiP hsP hbP hzP hcP h3 hnl
  go_enter Tryd.func30, Tryd.ntmps30
  go_upto_region 4 with fail
  go_quiet (fail)
  have g1 := ((goesM.start H0.out (s.ticks + 1)).drewN nq)
  generalize (w.setCell ⟨p, 47, none⟩ (.int .i64 (s.ticks + 1))).drewN nq = w1 at g1 ⊢
  obtain ⟨_, _, y2, _, _, _, y6, _, y45, _, y47, _⟩ := g1.is.cells
  replace y2 : w1.cell? ⟨p, 2, none⟩ = some (.int .i64 s.limit) := y2
  replace y47 : w1.cell? ⟨p, 47, none⟩ = some (.int .i64 (s.ticks + 1)) := y47
  replace y45 : w1.cell? ⟨p, 45, none⟩ = some (.bool true) := by rw [← HB.out.2.2.1]; exact y45
  replace y6 : w1.cell? ⟨p, 6, none⟩ = some (.slice A n cc) := by rw [← HN.out]; exact y6
  have HG := Lib.hid g1
  clear g1 x2 x3 x44 x47 f47
  go_upto_region 11 with fail
  go_region
  have g2 := HG.out.drew
  generalize w1.drew = w2 at g2 ⊢
  have HG2 := Lib.hid g2
  clear g2 HG y2 y47 y45 y6 hm2 ha2 hmd hw64 hwr
  go_wp2_with fail
  go_loopw [3, 7] (fun v3 v7 wx => ∃ (k : Nat) (D : List (PK × List Value)) (K : List Nat), k ≤ 0 ∧ v7 = .int .i64 (k : Int) ∧ Hid (goesM p (s.setTicks (s.ticks + 1)) (.slice A s.conf.chain.length cc) ev F w ([] ++ s.asksK.take k) v3 D K wx)) (fun _ v7 _ => 3 - (intOf v7).toNat)
  case atStart => exact ⟨0, _, _, by omega, rfl, HG2⟩
  case round =>
    obtain ⟨k, D, K, hk, rfl, HGk⟩ := hrel
    have y0 : wr.cell? ⟨p, 0, none⟩ = some (.int .i64 s.client) := HGk.out.is.cells.1
    have y45 := HGk.out.is.cells.2.2.2.2.2.2.2.2.1
    replace y45 : wr.cell? ⟨p, 45, none⟩ = some (.bool true) := by first | exact y45 | (rw [← HB.out.2.2.1]; exact y45)
    obtain rfl : k = 0 := by omega
    go_wp2_with fail
    go_ret
    rw [← HA.out]
    have h6 := HGk.out
    rw [show s.asksK.take 0 = [] from rfl, List.append_nil] at h6
    exact ⟨_, _, _, rfl, h6⟩
set_option maxHeartbeats 4000000 in
theorem tickM_8 (hw : s.waits = true) (hb : 0 ≤ s.client ∧ s.client ≤ 2) (hl : 1 ≤ s.limit ∧ s.limit ≤ 1000) (ht : 0 ≤ s.ticks ∧ s.ticks ≤ 100000) (hn : s.req.env.length ≤ 1000000) (hm : ¬ s.most < s.ticks + 1) (hc : s.conf.chain ≠ []) (hs : s.sent = true) (ha : (s.ticks + 1) % s.limit = 0) : Calls Tryd.prog 30 #[.pointer (some ⟨p, 0, none⟩)] w (tickMPost p (s.tickL, (s.setTicks (s.ticks + 1)).setSent (s.sent || decide (s.conf.chain ≠ []))) cv ev F w) := by
  obtain ⟨A, cc, g, rfl, _, h3, _⟩ := h.chain
  obtain ⟨n, hnl⟩ : ∃ n, s.conf.chain.length = n := ⟨_, rfl⟩
  have hnm : n ≤ 9223372036854775807 := by unfold maxLen at h3; omega
  have HN := Lib.hid hnl
  have hn0 : 0 < n := by rw [← hnl]; exact List.length_pos_iff.2 hc
  obtain ⟨_, _, x2, x3, _, _, _, x44, _, _, x47, _⟩ := h.cells
  rw [hw] at x44
  have f47 := h.row.free 47
  obtain ⟨ht0, ht1⟩ := ht
  obtain ⟨hb1, hb2⟩ := hb
  have hwr : IntKind.i64.wrap (s.ticks + 1) = s.ticks + 1 := by rw [IntKind.wrap_i64]; omega
  have hw64 : wrap64 (s.ticks + 1) = s.ticks + 1 := by unfold wrap64; omega
  have hmd : (s.ticks + 1).tmod s.limit = (s.ticks + 1) % s.limit := Int.tmod_eq_emod_of_nonneg (by omega)
  have HE := Lib.hid (show s.tickL = s.asksK ++ [s.reqK] ∧ (s.sent || decide (s.conf.chain ≠ [])) = true from by
    unfold SS.tickL
    simp [hc, hs, ha, ifL])
  have H0 := Lib.hid h
  have HB := Lib.hid (And.intro (And.intro hb1 hb2) (And.intro hn (And.intro hs hc)))
  have ha2 : ((s.ticks + 1) % s.limit == 0) = true := by simp [ha]
  have hl0 : ¬ s.limit = 0 := by omega
  have hl2 : (s.limit == 0) = false := by simp; omega
  have hm2 : s.ticks + 1 ≤ s.most := by omega
  have HA := Lib.hid (show ((s.asksK ++ [s.reqK] : List PK), (s.setTicks (s.ticks + 1))) = (s.tickL, (s.setTicks (s.ticks + 1)).setSent (s.sent || decide (s.conf.chain ≠ []))) by rw [HE.out.1, HE.out.2]; exact congrArg (Prod.mk _) (setSent_self hs _).symm)
  obtain ⟨z, hz⟩ : ∃ z, (s.tickL, (s.setTicks (s.ticks + 1)).setSent (s.sent || decide (s.conf.chain ≠ []))) = z := ⟨_, rfl⟩
  rw [hz] at HA ⊢
  obtain ⟨iP, zP, hiP, hsP, hbP, hzP, hcP⟩ := info_P
  have HI := Lib.hid (And.intro hiP (And.intro hsP (And.intro hbP (And.intro hzP hcP))))
  have hw20 : IntKind.i64.wrap (20 + s.client) = 20 + s.client := by rw [IntKind.wrap_i64]; omega
  clear hz h hw hs hc hl ht0 ht1 hn ha hm hiP hsP hbP hzP hcP h3 hnl
  go_enter Tryd.func30, Tryd.ntmps30
  go_upto_region 4 with fail
  go_quiet (fail)
  have g1 := ((goesM.start H0.out (s.ticks + 1)).drewN nq)
  generalize (w.setCell ⟨p, 47, none⟩ (.int .i64 (s.ticks + 1))).drewN nq = w1 at g1 ⊢
  obtain ⟨_, _, y2, _, _, _, y6, _, y45, _, y47, _⟩ := g1.is.cells
  replace y2 : w1.cell? ⟨p, 2, none⟩ = some (.int .i64 s.limit) := y2
  replace y47 : w1.cell? ⟨p, 47, none⟩ = some (.int .i64 (s.ticks + 1)) := y47
  replace y45 : w1.cell? ⟨p, 45, none⟩ = some (.bool true) := by rw [← HB.out.2.2.1]; exact y45
  replace y6 : w1.cell? ⟨p, 6, none⟩ = some (.slice A n cc) := by rw [← HN.out]; exact y6
  have HG := Lib.hid g1
  clear g1 x2 x3 x44 x47 f47
  go_upto_region 11 with fail
  go_region
  have g2 := HG.out.drew
  generalize w1.drew = w2 at g2 ⊢
  have HG2 := Lib.hid g2
  clear g2 HG y2 y47 y45 y6 hm2 ha2 hmd hw64 hwr
  go_wp2_with fail
  go_loopw [3, 7] (fun v3 v7 wx => ∃ (k : Nat) (D : List (PK × List Value)) (K : List Nat), k ≤ 3 ∧ v7 = .int .i64 (k : Int) ∧ Hid (goesM p (s.setTicks (s.ticks + 1)) (.slice A s.conf.chain.length cc) ev F w ([] ++ s.asksK.take k) v3 D K wx)) (fun _ v7 _ => 3 - (intOf v7).toNat)
  case atStart => exact ⟨0, _, _, by omega, rfl, HG2⟩
  case round =>
    obtain ⟨k, D, K, hk, rfl, HGk⟩ := hrel
    have y0 : wr.cell? ⟨p, 0, none⟩ = some (.int .i64 s.client) := HGk.out.is.cells.1
    have y45 := HGk.out.is.cells.2.2.2.2.2.2.2.2.1
    replace y45 : wr.cell? ⟨p, 45, none⟩ = some (.bool true) := by first | exact y45 | (rw [← HB.out.2.2.1]; exact y45)
    by_cases hlt : k < 3
    · have hk1 : (k : Int) < 3 := by omega
      have hk0 : (0 : Int) ≤ (k : Int) := by omega
      have hwi : IntKind.i64.wrap ((k : Int) + 1) = (k : Int) + 1 := by rw [IntKind.wrap_i64]; omega
      obtain ⟨W2, hW2, hr2, ho2, hnx⟩ := HGk.out.ready (keepBut.refl [] wr) (askK_item wr [] (20 + s.client) (k : Int)) (by simp [newIn])
      obtain ⟨X, hX⟩ : ∃ X, pkL ((SS.ask (k : Int)).from (20 + s.client)) nilV nilV nilV nilV nilV = X := ⟨_, rfl⟩
      have HXL := Lib.hid (show X.length = 87 ∧ ∀ u ∈ X, u.oneCell' = true from by rw [← hX]; exact ⟨pkL_len rqZero_name anZero_name, pkL_one rfl rfl rfl rfl rfl⟩)
      have HXC := Lib.hid ((askCellsK (20 + s.client) (k : Int)).trans (congrArg List.toArray hX))
      dsimp only at hW2 hr2 hnx
      rw [hX] at hW2 hr2 hnx
      have HQ := Lib.hid (And.intro hW2 (And.intro hr2 (And.intro ho2 hnx)))
      have HLE := Lib.hid (show D.length + 1 ≤ 5 by have h := HGk.out.len; simp only [List.length_append, List.length_take, List.length_nil, List.length_singleton] at h; omega)
      clear hW2 hr2 ho2 hnx hX
      go_wp2_with (first
        | (rw [HXC.out]; refine wpList_build_one _ _ rfl 64 (.tmp 91) rfl 44 iP zP X rfl Tryd.underlying64 HI.out.1 HI.out.2.2.2.1 (by rw [HI.out.2.1]; exact HXL.out.1.symm) (by have := HXL.out.1; omega) (by have := HXL.out.1; omega) HQ.out.1 ?_)
        | (refine wp_appendO _ rfl (.tmp 84) (.tmp 92) 64 rfl 44 iP zP 87 iP.bytes Tryd.underlying64 HI.out.1 HI.out.2.2.2.1 HI.out.2.1 rfl HI.out.2.2.2.2 (by decide) _ _ _ rfl HQ.out.2.2.1 (some ⟨wr.heap.size, 0, none⟩) wr.heap.size 1 1 X rfl HQ.out.2.1 HXL.out.2 (by decide) (Nat.le_trans (Nat.mul_le_mul HLE.out HI.out.2.2.1) (by decide)) (by have := HLE.out; simp only [maxLen]; omega) ?_; intro A' c' w6 o6 k6 n6; have h6 := HQ.out.2.2.2 A' c' w6 o6 k6 n6; rw [List.append_assoc, ← asksK_take s hlt, List.append_nil] at h6; have H6k := Lib.hid h6; clear h6 o6 k6 n6))
      go_roundw
      case rel => exact ⟨k + 1, _, _, by omega, rfl, H6k⟩
      case measure => simp only [intOf]; omega
    · obtain rfl : k = 3 := by omega
      have PR := Lib.hid (fun (W : World) (D : List (PK × List Value)) (K : List Nat) (v : Value) (LL : List PK) (hq : goesM p (s.setTicks (s.ticks + 1)) (.slice A s.conf.chain.length cc) ev F w LL v D K W) => show Calls Tryd.prog 55 #[.pointer (some ⟨p, 0, none⟩)] W (requestPost s W) from hq.request HB.out.2.2.2 HB.out.1 HB.out.2.1)
      have HLE := Lib.hid (show D.length + 1 ≤ 5 by have h := HGk.out.len; simp only [List.length_append, List.length_take, List.length_nil, List.length_singleton] at h; omega)
      go_wp2_with (first
        | (go_at_call 55; (with_reducible refine (PR.out _ _ _ _ _ HGk.out).mono ?_); rintro e w4 ⟨ev', G', rfl, hv', hG', k4⟩; obtain ⟨W2, hW2, hr2, ho2, hnx⟩ := HGk.out.ready k4 (reqK_item s hv') hG'; obtain ⟨X, hX⟩ : ∃ X, pkL s.reqK ev' nilV nilV nilV nilV = X := ⟨_, rfl⟩; have HXL := Lib.hid (show X.length = 87 ∧ ∀ u ∈ X, u.oneCell' = true from by rw [← hX]; exact ⟨pkL_len hv'.1 anZero_name, pkL_one hv'.2.one rfl rfl rfl rfl⟩); dsimp only at hW2 hr2 hnx; rw [hX] at hW2 hr2 hnx ⊢; have HQ := Lib.hid (And.intro hW2 (And.intro hr2 (And.intro ho2 hnx))); clear hv' hG' k4 hW2 hr2 ho2 hnx hX)
        | (refine wpList_build_one _ _ rfl 64 (.tmp 104) rfl 44 iP zP X rfl Tryd.underlying64 HI.out.1 HI.out.2.2.2.1 (by rw [HI.out.2.1]; exact HXL.out.1.symm) (by have := HXL.out.1; omega) (by have := HXL.out.1; omega) HQ.out.1 ?_)
        | (refine wp_appendO _ rfl (.tmp 102) (.tmp 105) 64 rfl 44 iP zP 87 iP.bytes Tryd.underlying64 HI.out.1 HI.out.2.2.2.1 HI.out.2.1 rfl HI.out.2.2.2.2 (by decide) _ _ _ rfl HQ.out.2.2.1 (some ⟨w4.heap.size, 0, none⟩) w4.heap.size 1 1 X rfl HQ.out.2.1 HXL.out.2 (by decide) (Nat.le_trans (Nat.mul_le_mul (show _ ≤ 5 from HLE.out) HI.out.2.2.1) (by decide)) (by have := HLE.out; simp only [maxLen]; omega) ?_; intro A' c' w6 o6 k6 n6; have h6 := HQ.out.2.2.2 A' c' w6 o6 k6 n6; have H6 := Lib.hid h6; clear h6 o6 k6 n6))
      go_ret
      rw [← HA.out]
      have h6 := H6.out
      rw [show s.asksK.take 3 = s.asksK from rfl] at h6
      exact ⟨_, _, _, rfl, h6⟩
theorem tickM_any (hb : 0 ≤ s.client ∧ s.client ≤ 2) (hl : 1 ≤ s.limit ∧ s.limit ≤ 1000) (ht : 0 ≤ s.ticks ∧ s.ticks ≤ 100000) (hn : s.req.env.length ≤ 1000000) : Calls Tryd.prog 30 #[.pointer (some ⟨p, 0, none⟩)] w (tickMPost p s.tickP cv ev F w) := by
  unfold SS.tickP
  cases hw : s.waits with
  | false => rw [if_pos rfl]; exact tickM_none p s cv ev F w h hw
  | true =>
    rw [if_neg (by simp)]
    by_cases hm : s.most < s.ticks + 1
    · rw [if_pos hm]; exact tickM_late p s cv ev F w h hw ht hm
    · rw [if_neg hm]
      by_cases hc : s.conf.chain = []
      · cases hs : s.sent with
        | false =>
          rw [← hs]
          by_cases ha : (s.ticks + 1) % s.limit = 0
          · exact tickM_2 p s cv ev F w h hw hb hl ht hn hm hc hs ha
          · exact tickM_1 p s cv ev F w h hw hb hl ht hn hm hc hs ha
        | true =>
          rw [← hs]
          by_cases ha : (s.ticks + 1) % s.limit = 0
          · exact tickM_4 p s cv ev F w h hw hb hl ht hn hm hc hs ha
          · exact tickM_3 p s cv ev F w h hw hb hl ht hn hm hc hs ha
      · cases hs : s.sent with
        | false =>
          rw [← hs]
          by_cases ha : (s.ticks + 1) % s.limit = 0
          · exact tickM_6 p s cv ev F w h hw hb hl ht hn hm hc hs ha
          · exact tickM_5 p s cv ev F w h hw hb hl ht hn hm hc hs ha
        | true =>
          rw [← hs]
          by_cases ha : (s.ticks + 1) % s.limit = 0
          · exact tickM_8 p s cv ev F w h hw hb hl ht hn hm hc hs ha
          · exact tickM_7 p s cv ev F w h hw hb hl ht hn hm hc hs ha
end
end Go.Proofs.YtkpmlcgbffdloaaDoor
end
