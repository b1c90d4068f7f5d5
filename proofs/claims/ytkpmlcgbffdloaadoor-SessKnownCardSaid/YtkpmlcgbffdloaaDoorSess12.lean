/-
  SESS, 12: the request is sent to the head; Tick.
-/
import Derived.Test.YtkpmlcgbffdloaaDoorSess11
import Derived.BigQuiet
namespace Go.Proofs.YtkpmlcgbffdloaaDoor
open Go.RowKit
set_option linter.unusedVariables false
set_option maxRecDepth 100000

/-- what the head is asked with -/
def SS.reqP (s : SS) : PK := ⟨1, 0, s.conf.chain.headD 0, 0, 0, 0, false, s.req, anZero, cfZero, [], []⟩
theorem reqP_item {w : World} {G : List Nat} {ev : Value} (s : SS) (h : rqV w G s.req ev) : itemV w G (s.reqP, pkL s.reqP ev nilV nilV nilV nilV) :=
  ⟨_, _, _, _, _, rfl, ⟨h.1, anZero_name, h.2, bytesV.nil _ _, intsV.nil _ _, votesV.nil _ _, bytesV.nil _ _⟩⟩
theorem built_pkZ (parts : List (Nat × Value)) : Tryd.prog.built 44 parts = Instr.fill (pkPlaces.toArray[·]?) (pkL pkZero nilV nilV nilV nilV nilV).toArray parts := by
  have h1 := pk_places
  have h2 := zv_pk
  cases hu : Tryd.prog.underlying 44 with
  | none => rw [hu] at h1; cases h1
  | some d =>
    rw [hu] at h1
    cases d with
    | struct fields =>
      cases hi : Tryd.prog.info? 44 with
      | none => rw [hi] at h2; cases h2
      | some it =>
        rw [hi] at h2
        simp only [Option.bind_some] at h2
        unfold Program.built
        simp only [hi, hu, h1, h2]
        rfl
    | _ => cases h1
theorem build_reqP (s : SS) (ev : Value) (h : s.req.name.length = 32) : Tryd.prog.built 44 [(0, .int .i64 1), (2, .int .i64 (s.conf.chain.headD 0)), (7, .agg (rqL s.req ev).toArray)] = some (pkL s.reqP ev nilV nilV nilV nilV).toArray := by
  have e1 : (rqL s.req ev).length = 37 := rqL_len h
  have e0 : (rqL rqZero nilV).length = 37 := rqL_len rqZero_name
  rw [built_pkZ]
  rw [fill_cons _ _ 0 _ _ 0 1 rfl rfl (by rw [List.size_toArray, pkZ_len]; omega)]
  rw [fill_cons _ _ 2 _ _ 2 1 rfl rfl (by simp only [putL_size, List.size_toArray, pkZ_len]; omega)]
  rw [fill_cons _ _ 7 _ _ 7 37 rfl (by simp only [Value.cells, List.size_toArray, e1]) (by simp only [putL_size, List.size_toArray, pkZ_len]; omega)]
  rw [Instr.fill]
  refine congrArg some ?_
  have p1 := putL_mid [] [.int .i64 0] [.int .i64 1] (.int .i64 0 :: .int .i64 0 :: .int .i64 0 :: .int .i64 0 :: .int .i64 0 :: .bool false :: (rqL rqZero nilV ++ (anL anZero nilV ++ (cfL cfZero nilV ++ [nilV, nilV])))) rfl
  have p2 := putL_mid [.int .i64 1, .int .i64 0] [.int .i64 0] [.int .i64 (s.conf.chain.headD 0)] (.int .i64 0 :: .int .i64 0 :: .int .i64 0 :: .bool false :: (rqL rqZero nilV ++ (anL anZero nilV ++ (cfL cfZero nilV ++ [nilV, nilV])))) rfl
  have p3 := putL_mid [.int .i64 1, .int .i64 0, .int .i64 (s.conf.chain.headD 0), .int .i64 0, .int .i64 0, .int .i64 0, .bool false] (rqL rqZero nilV) (rqL s.req ev) (anL anZero nilV ++ (cfL cfZero nilV ++ [nilV, nilV])) (by rw [e0, e1])
  show putL (putL (putL (pkL pkZero nilV nilV nilV nilV nilV).toArray 0 [.int .i64 1]) 2 [.int .i64 (s.conf.chain.headD 0)]) 7 (rqL s.req ev) = _
  exact (congrArg (fun z => putL (putL z 2 [.int .i64 (s.conf.chain.headD 0)]) 7 (rqL s.req ev)) p1).trans ((congrArg (fun z => putL z 7 (rqL s.req ev)) p2).trans p3)
/-- the packet to the head, as it waits -/
def SS.reqT (s : SS) (ev : Value) : PK × List Value := (s.reqP.from (20 + s.client), (pkL s.reqP ev nilV nilV nilV nilV).set 1 (.int .i64 (20 + s.client)))
def sendQPost (p q : Nat) (s : SS) (cv ev : Value) (F K : List Nat) (T : List (PK × List Value)) (w : World) (e : Ending) (w' : World) : Prop :=
  if s.conf.chain = [] then e = .returned (.bool false) ∧ w = w'
  else e = .returned (.bool true) ∧ ∃ ev' G', isQ w' p q (s.setSent true) cv ev F (K ++ G') (T ++ [s.reqT ev']) ∧ newIn w w' G' ∧ keepBut [p, q] w w'
section
variable (p q : Nat) (s : SS) (cv ev : Value) (F K : List Nat) (T : List (PK × List Value)) (w : World) (h : isQ w p q s cv ev F K T)
include h
theorem isQ.lenC : ∃ A c, cv = .slice A s.conf.chain.length c ∧ s.conf.chain.length ≤ maxLen := by
  obtain ⟨A, c, g, rfl, h2, h3, _⟩ := h.chain
  exact ⟨A, c, rfl, Nat.le_trans h2 h3⟩
theorem sendQ_no (hc : s.conf.chain = []) : Calls Tryd.prog 48 #[.pointer (some ⟨p, 0, none⟩)] w (sendQPost p q s cv ev F K T w) := by
  obtain ⟨A, c, rfl, _⟩ := isQ.lenC p q s cv ev F K T w h
  obtain ⟨_, _, _, _, _, _, x6, _⟩ := h.cells
  have e0 : s.conf.chain.length = 0 := by rw [hc]; rfl
  rw [e0] at x6
  have HC := Lib.hid hc
  clear hc e0
  go_enter Tryd.func48, Tryd.ntmps48
  go_wp2
  go_ret
  unfold sendQPost
  rw [if_pos HC.out]
  exact ⟨rfl, rfl⟩
set_option maxHeartbeats 1000000 in
theorem sendQ_yes (hc : s.conf.chain ≠ []) (hb : 0 ≤ s.client ∧ s.client ≤ 2) (hT : T.length ≤ 3) (hn : s.req.env.length ≤ 1000000) : Calls Tryd.prog 48 #[.pointer (some ⟨p, 0, none⟩)] w (sendQPost p q s cv ev F K T w) := by
  have H0 := Lib.hid h
  obtain ⟨A, c, g, rfl, h2, h3, h4, h5⟩ := h.chain
  obtain ⟨_, _, _, _, _, _, x6, _⟩ := h.cells
  obtain ⟨a0, ar, hce⟩ : ∃ a0 ar, s.conf.chain = a0 :: ar := List.exists_cons_of_ne_nil hc
  have hl : 0 < s.conf.chain.length := by rw [hce]; simp
  obtain ⟨o, rfl, hg, hcell⟩ := h4.2 hl
  have z0 : w.cell? ⟨g, o, none⟩ = some (.int .i64 a0) := by
    have := hcell 0 (.int .i64 a0) (by rw [hce]; rfl)
    simpa using this
  have HC := Lib.hid (And.intro hc hce)
  have hgF : g ∈ F := h5 (by rw [hce]; simp)
  have hgq : g ≠ q := (h.far g (by simp [hgF])).2.2
  have HX0 := Lib.hid h.nm
  obtain ⟨X, hX⟩ : ∃ X, rqL s.req ev = X := ⟨_, rfl⟩
  have r11 : w.rangeAt p 11 X := h.row.range (fun j v hv => by
    have := mid_at (k := 11) (l := ssHead s q (.slice (some ⟨g, o, none⟩) s.conf.chain.length c)) (m := rqL s.req ev) (r := [.int .i64 s.ticks, .bool s.sent]) rfl j v (by rw [hX]; exact hv)
    simpa [ssL] using this)
  have hHP : ∀ w', keepBut [q] w w' → w'.cell? ⟨p, 6, none⟩ = some (.slice (some ⟨g, o, none⟩) s.conf.chain.length c) ∧ w'.cell? ⟨g, o, none⟩ = some (.int .i64 a0) ∧ w'.rangeAt p 11 X := fun w' hk => ⟨(hk.cell (p := ⟨p, 6, none⟩) h.row.lt (by simpa using h.apart)).trans x6, (hk.cell (p := ⟨g, o, none⟩) hg (by simpa using hgq)).trans z0, rangeAt.keep r11 hk (by simpa using h.apart)⟩
  have HDc := Lib.hid (fun w' (hk : keepBut [] w w') => copiedQ_any F s.req ev w' ⟨h.nm, h.env.keep hk (by simp)⟩ hn)
  obtain ⟨n, hnl⟩ : ∃ n, s.conf.chain.length = n := ⟨_, rfl⟩
  rw [hnl] at x6 hl h2 hHP
  have HP := Lib.hid hHP
  have HX := Lib.hid (And.intro hX (And.intro r11 (show (Tryd.prog.info? 37).map (·.size) = some X.length by rw [← hX, rqL_len HX0.out]; exact info_rqS)))
  have HD : Hid (∀ w', keepBut [] w w' → Calls Tryd.prog 53 #[.agg X.toArray] w' (copiedP s.req w')) := by rw [← hX]; exact HDc
  have hn0 : (0 : Int) < (n : Int) := by omega
  have HB3 := Lib.hid (And.intro hb (show T.length < 4 by omega))
  have hne : ((n : Int) == 0) = false := by simp; omega
  have hnm : n ≤ 9223372036854775807 := by unfold maxLen at h3; omega
  clear hc hce hcell h4 h5 h2 h3 h hHP HDc hX r11 hb hT hn z0
  go_enter Tryd.func48, Tryd.ntmps48
  go_upto_region 3 with fail
  refine wp_region_held_drew (S := keepBut [q] w) (by kernel_rfl) ((keepBut.refl [] w).drew.more (by simp)) (fun _ => ?_)
  have kW := (keepBut.refl [] w).drew
  obtain ⟨W0, hW0⟩ : ∃ W, w.drew = W := ⟨_, rfl⟩
  rw [hW0] at kW ⊢
  clear hW0
  have HG := Lib.hid kW.size
  refine wpAnyH_take (i := 0) (oi := ⟨_, _, _, _, _, _⟩) (v := ?_) rfl (by kernel_rfl) (by kernel_rfl) (by kernel_rfl) (fun _ _ _ h => h) (Or.inl ⟨by rfl, ?_⟩) (kW.more (by simp)) ?_
  rotate_left
  · intro w' hSw; clear hSw; (go_simp; try with_reducible rfl)
  try simp only [Act.put, List.setIfInBounds_toArray, List.set_cons_zero, List.set_cons_succ]
  refine wpAnyH_take (i := 1) (oi := ⟨_, _, _, _, _, _⟩) (v := ?_) rfl (by kernel_rfl) (by kernel_rfl) (by kernel_rfl) (fun _ _ _ h => h) (Or.inl ⟨by rfl, ?_⟩) (kW.more (by simp)) ?_
  rotate_left
  · intro w' hSw; clear hSw; (go_simp; try with_reducible rfl)
  try simp only [Act.put, List.setIfInBounds_toArray, List.set_cons_zero, List.set_cons_succ]
  refine wpAnyH_take (i := 2) (oi := ⟨_, _, _, _, _, _⟩) (v := ?_) rfl (by kernel_rfl) (by kernel_rfl) (by kernel_rfl) (fun _ _ _ h => h) (Or.inl ⟨by rfl, ?_⟩) (kW.more (by simp)) ?_
  rotate_left
  · intro w' hSw; clear hSw; (go_simp; try with_reducible rfl)
  try simp only [Act.put, List.setIfInBounds_toArray, List.set_cons_zero, List.set_cons_succ]
  refine wpAnyH_take (i := 3) (oi := ⟨_, _, _, _, _, _⟩) (v := ?_) rfl (by kernel_rfl) (by kernel_rfl) (by kernel_rfl) (fun _ _ _ h => h) (Or.inl ⟨by rfl, ?_⟩) (kW.more (by simp)) ?_
  rotate_left
  · intro w' hSw; clear hSw; (go_simp; try with_reducible rfl)
  try simp only [Act.put, List.setIfInBounds_toArray, List.set_cons_zero, List.set_cons_succ]
  refine wpAnyH_take (i := 4) (oi := ⟨_, _, _, _, _, _⟩) (v := ?_) rfl (by kernel_rfl) (by kernel_rfl) (by kernel_rfl) (fun _ _ _ h => h) (Or.inl ⟨by rfl, ?_⟩) (kW.more (by simp)) ?_
  rotate_left
  · intro w' hSw; clear hSw; (go_simp; try with_reducible rfl)
  try simp only [Act.put, List.setIfInBounds_toArray, List.set_cons_zero, List.set_cons_succ]
  refine wpAnyH_take (i := 5) (oi := ⟨_, _, _, _, _, _⟩) (v := ?_) rfl (by kernel_rfl) (by kernel_rfl) (by kernel_rfl) (fun _ _ _ h => h) (Or.inl ⟨by rfl, ?_⟩) (kW.more (by simp)) ?_
  rotate_left
  · intro w' hSw; have xc := (HP.out w' hSw).1; clear hSw; (go_simp; try with_reducible rfl)
  try simp only [Act.put, List.setIfInBounds_toArray, List.set_cons_zero, List.set_cons_succ]
  refine wpAnyH_take (i := 6) (oi := ⟨_, _, _, _, _, _⟩) (v := ?_) rfl (by kernel_rfl) (by kernel_rfl) (by kernel_rfl) (fun _ _ _ h => h) (Or.inl ⟨by rfl, ?_⟩) (kW.more (by simp)) ?_
  rotate_left
  · intro w' hSw; clear hSw; (go_simp; try with_reducible rfl)
  try simp only [Act.put, List.setIfInBounds_toArray, List.set_cons_zero, List.set_cons_succ]
  refine wpAnyH_take (i := 7) (oi := ⟨_, _, _, _, _, _⟩) (v := ?_) rfl (by kernel_rfl) (by kernel_rfl) (by kernel_rfl) (fun _ _ _ h => h) (Or.inl ⟨by rfl, ?_⟩) (kW.more (by simp)) ?_
  rotate_left
  · intro w' hSw; have xc := (HP.out w' hSw).2.1; clear hSw; (go_simp; try with_reducible rfl)
  try simp only [Act.put, List.setIfInBounds_toArray, List.set_cons_zero, List.set_cons_succ]
  refine wpAnyH_take (i := 8) (oi := ⟨_, _, _, _, _, _⟩) (v := ?_) rfl (by kernel_rfl) (by kernel_rfl) (by kernel_rfl) (fun _ _ _ h => h) (Or.inl ⟨by rfl, ?_⟩) (kW.more (by simp)) ?_
  rotate_left
  · intro w' hSw; clear hSw; (go_simp; try with_reducible rfl)
  try simp only [Act.put, List.setIfInBounds_toArray, List.set_cons_zero, List.set_cons_succ]
  refine wpAnyH_take (i := 9) (oi := ⟨_, _, _, _, _, _⟩) (v := ?_) rfl (by kernel_rfl) (by kernel_rfl) (by kernel_rfl) (fun _ _ _ h => h) (Or.inl ⟨by rfl, ?_⟩) (kW.more (by simp)) ?_
  rotate_left
  · intro w' hSw; clear hSw; (go_simp; try with_reducible rfl)
  try simp only [Act.put, List.setIfInBounds_toArray, List.set_cons_zero, List.set_cons_succ]
  refine wpAnyH_take (i := 10) (oi := ⟨_, _, _, _, _, _⟩) (v := ?_) rfl (by kernel_rfl) (by kernel_rfl) (by kernel_rfl) (fun _ _ _ h => h) (Or.inl ⟨by rfl, ?_⟩) (kW.more (by simp)) ?_
  rotate_left
  · intro w' hSw; clear hSw; (go_simp; try with_reducible rfl)
  try simp only [Act.put, List.setIfInBounds_toArray, List.set_cons_zero, List.set_cons_succ]
  refine wpAnyH_take (i := 11) (oi := ⟨_, _, _, _, _, _⟩) (v := .agg X.toArray) rfl (by kernel_rfl) (by kernel_rfl) (by kernel_rfl) (fun _ _ _ h => h) (yieldsIf_mid 37 (.tmp 20) rfl p 11 rfl X _ (fun w' hSw => (HP.out w' hSw).2.2) Tryd.underlying37 rfl HX.out.2.2 ?_) (kW.more (by simp)) ?_
  · rfl
  try simp only [Act.put, List.setIfInBounds_toArray, List.set_cons_zero, List.set_cons_succ]
  refine wpAnyH_ready (rs := [12]) (by kernel_rfl) (by simp) ?_
  refine AllReadyH.cons (o := ⟨_, _, _, _, _, _⟩) rfl (fun KK hKK => ?_) AllReadyH.nil
  go_simp
  (with_reducible refine (HD.out _ kW).mono ?_); rintro e w3 ⟨ev', rfl, G', hv', hG', k3⟩
  replace kW := kW.then k3 (by simp)
  have HV := Lib.hid (And.intro hv' hG')
  clear hv' hG' k3
  go_wp2_with fail
  refine hKK.out _ _ (kW.more (by simp)) (fun _ => ?_)
  clear hKK KK
  try simp only [Act.put, List.setIfInBounds_toArray, List.set_cons_zero, List.set_cons_succ]
  have hbd := build_reqP s ev' HV.out.1.1
  have hit := reqP_item s HV.out.1
  have hq3 := H0.out.over kW
  have hge := kW.size
  rw [SS.reqP, HC.out.2] at hbd hit
  simp only [List.headD_cons] at hbd hit
  obtain ⟨N, hN⟩ : ∃ N, rqL s.req ev' = N := ⟨_, rfl⟩
  obtain ⟨Y, hY⟩ : ∃ Y, pkL (⟨1, 0, a0, 0, 0, 0, false, s.req, anZero, cfZero, [], []⟩ : PK) ev' nilV nilV nilV nilV = Y := ⟨_, rfl⟩
  rw [hN] at hbd ⊢
  rw [hY] at hbd hit
  have HN := Lib.hid (And.intro hN hY)
  have HB := Lib.hid hbd
  have HI := Lib.hid (And.intro hit (And.intro hq3 hge))
  clear hbd hit hq3 hN hY hge
  refine wpAnyH_take (i := 13) (oi := ⟨_, _, _, _, _, _⟩) (v := .agg Y.toArray) rfl (by kernel_rfl) (by kernel_rfl) (by kernel_rfl) (fun _ _ _ h => h) (yieldsIf_build 44 _ rfl ?_ _ ?_) (kW.more (by simp)) ?_
  · rfl
  · simp only [List.map_toArray, List.map_cons, List.map_nil]
    go_simp
    exact HB.out
  try simp only [Act.put, List.setIfInBounds_toArray, List.set_cons_zero, List.set_cons_succ]
  have HF := Lib.hid (show ∀ y ∈ G', y < w3.heap.size ∧ y ≠ p ∧ y ≠ q from fun y hy => by
    have h1 := HV.out.2 y hy
    have h2 := H0.out.row.lt
    have h3 := H0.out.ch.lt
    have h4 := HG.out
    omega)
  refine wpAnyH_ready (rs := [14]) (by kernel_rfl) (by simp) ?_
  refine AllReadyH.cons (o := ⟨_, _, _, _, _, _⟩) rfl (fun KK hKK => ?_) AllReadyH.nil
  go_simp
  (with_reducible refine (putQ_any p q s _ ev F K G' T _ Y w3 HI.out.2.1 HB3.out.1 HI.out.1 HF.out HB3.out.2).mono ?_); rintro e w5 ⟨rfl, h5, k5⟩
  have H5 := Lib.hid (And.intro h5 k5)
  have S5 : keepBut [q] w w5 := (kW.more (by simp)).then k5 (fun x hx => .inl hx)
  clear h5 k5
  go_wp2_with fail
  refine hKK.out _ _ S5 (fun _ => ?_)
  clear hKK KK
  try simp only [Act.put, List.setIfInBounds_toArray, List.set_cons_zero, List.set_cons_succ]
  refine wpAnyH_done (by kernel_rfl) ?_ _
  obtain ⟨_, _, _, _, _, _, _, _, _, _, _, _, x49⟩ := H5.out.1.cells
  have f49 := H5.out.1.row.free 49
  go_wp2_with fail
  go_ret
  have a1 := H5.out.1.sent true
  unfold sendQPost
  rw [if_neg HC.out.1]
  refine ⟨rfl, ev', G', ?_, fun y hy => ⟨?_, ?_⟩, ((kW.more (by simp)).then (H5.out.2.more (T := [p, q]) (by simp)) (fun x hx => .inl hx)).then (a1.2.more (T := [p, q]) (by simp)) (fun x hx => .inl hx)⟩
  · have h := a1.1
    rw [← HN.out.2] at h
    have hh : s.conf.chain.headD 0 = a0 := by rw [HC.out.2]; rfl
    unfold SS.reqT SS.reqP
    rw [hh]
    exact h
  · have h1 := (HV.out.2 y hy).1
    have h2 := HG.out
    omega
  · have h1 := (HV.out.2 y hy).2
    have h2 := H5.out.2.size
    have h3 := a1.2.size
    omega
theorem sendQ_any (hb : 0 ≤ s.client ∧ s.client ≤ 2) (hT : T.length ≤ 3) (hn : s.req.env.length ≤ 1000000) : Calls Tryd.prog 48 #[.pointer (some ⟨p, 0, none⟩)] w (sendQPost p q s cv ev F K T w) := by
  by_cases hc : s.conf.chain = []
  · exact sendQ_no p q s cv ev F K T w h hc
  · exact sendQ_yes p q s cv ev F K T w h hc hb hT hn
end
end Go.Proofs.YtkpmlcgbffdloaaDoor
