/-
  PACK: PackBack: what may be is read of its bytes as it was.
-/
import Derived.Test.YthfdkonhjpdflaaDoorPk46
namespace Go.Proofs.YthfdkonhjpdflaaDoor
open Go.RowKit
set_option linter.unusedVariables false
set_option maxRecDepth 100000
set_option linter.unusedSimpArgs false

/-- a row that is stored whole into a block that was just made -/
theorem storedP {w : World} {t : TypeId} {Z X : List Value} (h : X.length = Z.length) :
    rowAt ((w.alloc (.cells Z.toArray t)).setCells w.heap.size 0 X) w.heap.size t X.toArray ∧ keepBut [] w ((w.alloc (.cells Z.toArray t)).setCells w.heap.size 0 X) := by
  have r := (rowAt.new w t Z.toArray).setL (vs := X) (o := 0)
  rw [putL_all (by rw [List.size_toArray]; exact h)] at r
  exact ⟨r, ((keepBut.refl [] w).alloc _).setL (.inr (Nat.le_refl _))⟩
theorem there_newP {w : World} {t : TypeId} {Z X : List Value} (h : X.length = Z.length) : (w.alloc (.cells Z.toArray t)).there w.heap.size 0 X.toArray.size := (rowAt.new w t Z.toArray).there (by simp only [List.size_toArray]; omega)
theorem vtsB_mem : ∀ (l : List VT), vtsB l = true → ∀ v ∈ l, v.ok = true
  | [], _, v, hv => by simp at hv
  | a :: r, h, v, hv => by
    rw [vtsB, Bool.and_eq_true] at h
    rcases List.mem_cons.1 hv with rfl | hv
    · exact h.1
    · exact vtsB_mem r h.2 v hv
theorem PK.ok_fits {p : PK} (h : p.ok = true) : p.fits := by
  obtain ⟨h0, h1, h2, h3, h4, h5, h6, h7, h8, h9, h10, h11⟩ := p.ok_facts h
  have hc := (PK.same_iff _ _).1 h3
  have er : bitA (fieldsP p.kind) 16 = 0 → p.req = rqZero := fun hb => (congrArg PK.req hc).trans (if_pos hb)
  have ea : bitA (fieldsP p.kind) 32 = 0 → p.ans = anZero := fun hb => (congrArg PK.ans hc).trans (if_pos hb)
  have ec : bitA (fieldsP p.kind) 64 = 0 → p.conf = cfZero := fun hb => (congrArg PK.conf hc).trans (if_pos hb)
  unfold vtsOk at h11
  rw [Bool.and_eq_true, decide_eq_true_eq] at h11
  refine ⟨?_, ?_, ?_, by omega, fun v hv => ?_, by omega⟩
  · rcases h8 with hb | hb
    · rw [er hb]; exact Nat.zero_le _
    · have := (RQ.ok_facts hb).2.2.2.2; omega
  · rcases h9 with hb | hb
    · rw [ea hb]; exact Nat.zero_le _
    · have := (AN.ok_facts hb).2.2.2.2.2; omega
  · rcases h10 with hb | hb
    · rw [ec hb]; exact Nat.zero_le _
    · have := (CF.ok_facts hb).2.1.2; omega
  · have h12 := vtsB_mem _ h11.2 v hv
    unfold VT.ok at h12
    rw [Bool.and_eq_true] at h12
    have := (CF.ok_facts h12.2).2.1.2
    omega
set_option maxHeartbeats 16000000 in
theorem packBack_law (F : List Nat) (s : SD) (v : Value) (w : World) (hs : SDok s) (hv : bytesV w F v s.b) (hfl : fieldsAt w) :
    Calls Tryd.prog 3 #[.agg (sdL s v).toArray] w fun e w' => e = .returned (.bool true) ∧ keepBut [] w w' := by
  obtain ⟨Z, hZ⟩ : ∃ Z, pkL pkZero nilV nilV nilV nilV nilV = Z := ⟨_, rfl⟩
  have zv := zv_pk
  have zl := pkZ_len
  rw [hZ] at zv zl
  have HZ := Lib.hid (And.intro zv zl)
  clear zv zl hZ
  obtain ⟨Y, hY⟩ : ∃ Y, sdL s v = Y := ⟨_, rfl⟩
  obtain ⟨wA, hwA⟩ : ∃ wA, w.alloc (.cells Y.toArray 25) = wA := ⟨_, rfl⟩
  have rA := rowAt.new w 25 Y.toArray
  have kA := (keepBut.refl [] w).alloc (.cells Y.toArray 25)
  rw [hwA] at rA kA
  have HMD := Lib.hid (fun w1 (hb : bytesV w1 F v s.b) => (show Calls Tryd.prog 7 #[.agg Y.toArray] w1 (MADE s w1) by rw [← hY]; exact made_any F s v w1 hs hb))
  have hJs : (Tryd.prog.info? 25).map (·.size) = some Y.length := by rw [← hY]; exact info_sd
  have HW := Lib.hid hwA
  have HR := Lib.hid (And.intro rA (And.intro kA (And.intro hJs (And.intro (hfl.keep kA (by simp)) (hv.keep kA (by simp))))))
  rw [hY]
  obtain ⟨p, hp⟩ : ∃ p, madeP s = p := ⟨_, rfl⟩
  have hok := madeP_ok s
  have hbd := madeP_ends s
  rw [hp] at hok hbd
  have hft := PK.ok_fits hok
  have HP := Lib.hid (And.intro hp (And.intro hok (And.intro hbd.1 (And.intro hbd.2 hft))))
  clear hwA rA kA hJs hfl hv hY hp hok hbd hft
  go_enter Tryd.func3, Tryd.ntmps3
  go_upto_region 1 with fail
  rw [HW.out]
  go_upto_region 3 with (go_at_call 6; refine (works_any _ HR.out.2.2.2.1).mono ?_; rintro e w1 ⟨rfl, k1⟩; have H1 := Lib.hid (And.intro (k1.row HR.out.1 (by simp)) (And.intro (HR.out.2.1.then k1 (by simp)) (And.intro (HR.out.2.2.2.1.keep k1 (by simp)) (HR.out.2.2.2.2.keep k1 (by simp))))); clear k1)
  go_upto_region 4 with (first
    | (refine wpList_load_mid rfl 25 (.tmp 1) rfl w.heap.size 0 rfl _ _ H1.out.1.rangeAll Tryd.underlying25 rfl HR.out.2.2.1 ?_)
    | (go_at_call 7; refine (HMD.out _ H1.out.2.2.2).mono ?_; intro e w2 hq; unfold MADE at hq; rw [HP.out.1] at hq; obtain ⟨ev, av, cv, vv, bw, G, rfl, q1, q2, q3⟩ := hq; have H2 := Lib.hid (And.intro q1 (And.intro (H1.out.2.1.then q3 (by simp)) (And.intro (H1.out.2.2.1.keep q3 (by simp)) (pkL_len (ev := ev) (av := av) (cv := cv) (vv := vv) (bw := bw) q1.rn q1.an)))); clear q1 q2 q3)
    | (with_reducible refine wpList_alloc_to _ _ rfl 38 rfl _ HZ.out.1 rfl ?_)
    | (refine wpList_store_mid rfl 38 (.tmp 3) (.tmp 11) rfl w2.heap.size 0 (pkL p ev av cv vv bw).toArray rfl rfl (there_newP (by rw [H2.out.2.2.2]; exact HZ.out.2.symm)) (by rw [List.size_toArray, H2.out.2.2.2]; exact info_pk) (all_oneCell_toArray (pkL_one H2.out.1.re.one H2.out.1.ae.one H2.out.1.cc.one H2.out.1.vs.one H2.out.1.bs.one)) ?_))
  have hst := storedP (w := w2) (t := 38) (Z := Z) (X := pkL p ev av cv vv bw) (by rw [H2.out.2.2.2]; exact HZ.out.2.symm)
  obtain ⟨w3, hw3⟩ : ∃ w3, (w2.alloc (.cells Z.toArray 38)).setCells w2.heap.size 0 (pkL p ev av cv vv bw) = w3 := ⟨_, rfl⟩
  rw [hw3] at hst ⊢
  obtain ⟨tp, htp⟩ : ∃ t, w2.heap.size = t := ⟨_, rfl⟩
  rw [htp] at hst ⊢
  have hI : (Tryd.prog.info? 38).map (·.size) = some (pkL p ev av cv vv bw).length := by rw [H2.out.2.2.2]; exact info_pk
  have hpl : (pkB p).length ≤ 1000000 := by have := (pk_lens HP.out.2.1 H2.out.1.rn H2.out.1.an).2.2.2.2.2.2.2.2.2; unfold pkB; omega
  have hpb := parsePk_back HP.out.2.1 H2.out.1.rn H2.out.1.an
  have H3 := Lib.hid (And.intro hst.1 (And.intro (H2.out.1.keep hst.2 (by simp)) (And.intro (H2.out.2.1.then hst.2 (by simp)) (And.intro (H2.out.2.2.1.keep hst.2 (by simp)) (And.intro hI (And.intro hpl hpb))))))
  clear hst hw3 htp hI hpl hpb
  go_upto_region 5 with (first
    | (refine wpList_load_mid rfl 38 (.tmp 3) rfl tp 0 rfl _ _ H3.out.1.rangeAll Tryd.underlying38 rfl H3.out.2.2.2.2.1 ?_)
    | (go_at_call 8; refine (bytes_any G p ev av cv vv bw _ H3.out.2.1 H3.out.2.2.2.1 HP.out.2.2.1 HP.out.2.2.2.1 HP.out.2.1).mono ?_; rintro e w4 ⟨u, G4, rfl, q1, q2, q3⟩; obtain ⟨A4, c4, g4, rfl, -⟩ := id q1; have H4 := Lib.hid (And.intro q1 (And.intro (q3.row H3.out.1 (by simp)) (And.intro (H3.out.2.1.keep q3 (by simp)) (And.intro (H3.out.2.2.1.then q3 (by simp)) (H3.out.2.2.2.1.keep q3 (by simp)))))); clear q1 q2 q3))
  go_upto_region 6 with (first
    | (go_at_call 9; refine (parsePk_any G4 (pkB p) _ _ H4.out.1 H3.out.2.2.2.2.2.1 H4.out.2.2.2.2).mono ?_; intro e w5 hq; rw [H3.out.2.2.2.2.2.2] at hq; obtain ⟨ev', av', cv', vv', bw', G5, rfl, q1, _, q3⟩ := hq; have H5 := Lib.hid (And.intro q1 (And.intro q3 (pkL_len (ev := ev') (av := av') (cv := cv') (vv := vv') (bw := bw') q1.rn q1.an))); clear q1 q3)
    | (with_reducible refine wpList_alloc_to _ _ rfl 38 rfl _ HZ.out.1 rfl ?_)
    | (refine wpList_store_mid rfl 38 (.tmp 6) (.tmp 20) rfl w5.heap.size 0 (pkL p ev' av' cv' vv' bw').toArray rfl rfl (there_newP (by rw [H5.out.2.2]; exact HZ.out.2.symm)) (by rw [List.size_toArray, H5.out.2.2]; exact info_pk) (all_oneCell_toArray (pkL_one H5.out.1.re.one H5.out.1.ae.one H5.out.1.cc.one H5.out.1.vs.one H5.out.1.bs.one)) ?_))
  have hst := storedP (w := w5) (t := 38) (Z := Z) (X := pkL p ev' av' cv' vv' bw') (by rw [H5.out.2.2]; exact HZ.out.2.symm)
  obtain ⟨w6, hw6⟩ : ∃ w6, (w5.alloc (.cells Z.toArray 38)).setCells w5.heap.size 0 (pkL p ev' av' cv' vv' bw') = w6 := ⟨_, rfl⟩
  rw [hw6] at hst ⊢
  obtain ⟨tq, htq⟩ : ∃ t, w5.heap.size = t := ⟨_, rfl⟩
  rw [htq] at hst ⊢
  have hI : (Tryd.prog.info? 38).map (·.size) = some (pkL p ev' av' cv' vv' bw').length := by rw [H5.out.2.2]; exact info_pk
  have k46 := H5.out.2.1.then hst.2 (by simp)
  have HQ := Lib.hid (fun w' (hk : keepBut [] w6 w') => (⟨hk.row (k46.row H4.out.2.1 (by simp)) (by simp), hk.row hst.1 (by simp), (H4.out.2.2.1.keep k46 (by simp)).keep hk (by simp), (H5.out.1.keep hst.2 (by simp)).keep hk (by simp), (H4.out.2.2.2.2.keep k46 (by simp)).keep hk (by simp), (H4.out.2.2.2.1.then k46 (by simp)).then hk (by simp)⟩ : rowAt w' tp 38 (pkL p ev av cv vv bw).toArray ∧ rowAt w' tq 38 (pkL p ev' av' cv' vv' bw').toArray ∧ pkV w' G p ev av cv vv bw ∧ pkV w' G5 p ev' av' cv' vv' bw' ∧ fieldsAt w' ∧ keepBut [] w w'))
  have HI := Lib.hid hI
  clear hst hw6 htq hI k46
  refine wp_region_held_drew (S := keepBut [] w6) (by kernel_rfl) (keepBut.refl [] w6).drew (fun _ => ?_)
  have kW := (keepBut.refl [] w6).drew
  obtain ⟨W0, hW0⟩ : ∃ W, w6.drew = W := ⟨_, rfl⟩
  rw [hW0] at kW ⊢
  clear hW0
  refine wpAnyH_take (i := 0) (oi := ⟨_, _, _, _, _, _⟩) (v := .agg (pkL p ev av cv vv bw).toArray) rfl (by kernel_rfl) (by kernel_rfl) (by kernel_rfl) (fun _ _ _ h => h) (yieldsIf_mid 38 (.tmp 3) rfl tp 0 rfl (pkL p ev av cv vv bw) _ (fun w' hSw => (HQ.out w' hSw).1.rangeAll) Tryd.underlying38 rfl H3.out.2.2.2.2.1 ?_) kW ?_
  · rfl
  try simp only [Act.put, List.setIfInBounds_toArray, List.set_cons_zero, List.set_cons_succ]
  refine wpAnyH_ready (rs := [1]) (by kernel_rfl) (by simp) ?_
  refine AllReadyH.cons (o := ⟨_, _, _, _, _, _⟩) rfl (fun K hK => ?_) AllReadyH.nil
  go_simp
  refine (check_any G p ev av cv vv bw _ (HQ.out _ kW).2.2.1 (HQ.out _ kW).2.2.2.2.1 HP.out.2.2.1 HP.out.2.2.2.1).mono ?_
  rintro e w7 ⟨rfl, k7⟩
  rw [show toldP p.ok = 0 by rw [HP.out.2.1]; rfl]
  replace kW := kW.then k7 (by simp)
  clear k7
  go_wp2_with fail
  refine hK.out _ _ kW (fun _ => ?_)
  clear hK K
  try simp only [Act.put, List.setIfInBounds_toArray, List.set_cons_zero, List.set_cons_succ]
  refine wpAnyH_take (i := 2) (oi := ⟨_, _, _, _, _, _⟩) (v := ?_) rfl (by kernel_rfl) (by kernel_rfl) (by kernel_rfl) (fun _ _ _ h => h) (Or.inl ⟨by rfl, ?_⟩) kW ?_
  rotate_left
  · intro w' hSw; clear hSw; (go_simp; try with_reducible rfl)
  try simp only [Act.put, List.setIfInBounds_toArray, List.set_cons_zero, List.set_cons_succ]
  refine wpAnyH_take (i := 3) (oi := ⟨_, _, _, _, _, _⟩) (v := ?_) rfl (by kernel_rfl) (by kernel_rfl) (by kernel_rfl) (fun _ _ _ h => h) (Or.inl ⟨by rfl, ?_⟩) kW ?_
  rotate_left
  · intro w' hSw; clear hSw; (go_simp; try with_reducible rfl)
  try simp only [Act.put, List.setIfInBounds_toArray, List.set_cons_zero, List.set_cons_succ]
  refine wpAnyH_take (i := 4) (oi := ⟨_, _, _, _, _, _⟩) (v := ?_) rfl (by kernel_rfl) (by kernel_rfl) (by kernel_rfl) (fun _ _ _ h => h) (Or.inl ⟨by rfl, ?_⟩) kW ?_
  rotate_left
  · intro w' hSw; clear hSw; (go_simp; try with_reducible rfl)
  try simp only [Act.put, List.setIfInBounds_toArray, List.set_cons_zero, List.set_cons_succ]
  refine wpAnyH_take (i := 5) (oi := ⟨_, _, _, _, _, _⟩) (v := ?_) rfl (by kernel_rfl) (by kernel_rfl) (by kernel_rfl) (fun _ _ _ h => h) (Or.inl ⟨by rfl, ?_⟩) kW ?_
  rotate_left
  · intro w' hSw; clear hSw; (go_simp; try with_reducible rfl)
  try simp only [Act.put, List.setIfInBounds_toArray, List.set_cons_zero, List.set_cons_succ]
  refine wpAnyH_take (i := 6) (oi := ⟨_, _, _, _, _, _⟩) (v := ?_) rfl (by kernel_rfl) (by kernel_rfl) (by kernel_rfl) (fun _ _ _ h => h) (Or.inl ⟨by rfl, ?_⟩) kW ?_
  rotate_left
  · intro w' hSw; clear hSw; (go_simp; try with_reducible rfl)
  try simp only [Act.put, List.setIfInBounds_toArray, List.set_cons_zero, List.set_cons_succ]
  refine wpAnyH_take (i := 7) (oi := ⟨_, _, _, _, _, _⟩) (v := ?_) rfl (by kernel_rfl) (by kernel_rfl) (by kernel_rfl) (fun _ _ _ h => h) (Or.inl ⟨by rfl, ?_⟩) kW ?_
  rotate_left
  · intro w' hSw; clear hSw; (go_simp; try with_reducible rfl)
  try simp only [Act.put, List.setIfInBounds_toArray, List.set_cons_zero, List.set_cons_succ]
  refine wpAnyH_take (i := 8) (oi := ⟨_, _, _, _, _, _⟩) (v := ?_) rfl (by kernel_rfl) (by kernel_rfl) (by kernel_rfl) (fun _ _ _ h => h) (Or.inl ⟨by rfl, ?_⟩) kW ?_
  rotate_left
  · intro w' hSw; clear hSw; (go_simp; try with_reducible rfl)
  try simp only [Act.put, List.setIfInBounds_toArray, List.set_cons_zero, List.set_cons_succ]
  refine wpAnyH_take (i := 9) (oi := ⟨_, _, _, _, _, _⟩) (v := ?_) rfl (by kernel_rfl) (by kernel_rfl) (by kernel_rfl) (fun _ _ _ h => h) (Or.inl ⟨by rfl, ?_⟩) kW ?_
  rotate_left
  · intro w' hSw; clear hSw; (go_simp; try with_reducible rfl)
  try simp only [Act.put, List.setIfInBounds_toArray, List.set_cons_zero, List.set_cons_succ]
  refine wpAnyH_take (i := 10) (oi := ⟨_, _, _, _, _, _⟩) (v := ?_) rfl (by kernel_rfl) (by kernel_rfl) (by kernel_rfl) (fun _ _ _ h => h) (Or.inl ⟨by rfl, ?_⟩) kW ?_
  rotate_left
  · intro w' hSw; clear hSw; (go_simp; try with_reducible rfl)
  try simp only [Act.put, List.setIfInBounds_toArray, List.set_cons_zero, List.set_cons_succ]
  refine wpAnyH_take (i := 11) (oi := ⟨_, _, _, _, _, _⟩) (v := ?_) rfl (by kernel_rfl) (by kernel_rfl) (by kernel_rfl) (fun _ _ _ h => h) (Or.inl ⟨by rfl, ?_⟩) kW ?_
  rotate_left
  · intro w' hSw; clear hSw; (go_simp; try with_reducible rfl)
  try simp only [Act.put, List.setIfInBounds_toArray, List.set_cons_zero, List.set_cons_succ]
  refine wpAnyH_take (i := 12) (oi := ⟨_, _, _, _, _, _⟩) (v := .agg (pkL p ev av cv vv bw).toArray) rfl (by kernel_rfl) (by kernel_rfl) (by kernel_rfl) (fun _ _ _ h => h) (yieldsIf_mid 38 (.tmp 3) rfl tp 0 rfl (pkL p ev av cv vv bw) _ (fun w' hSw => (HQ.out w' hSw).1.rangeAll) Tryd.underlying38 rfl H3.out.2.2.2.2.1 ?_) kW ?_
  · rfl
  try simp only [Act.put, List.setIfInBounds_toArray, List.set_cons_zero, List.set_cons_succ]
  refine wpAnyH_take (i := 13) (oi := ⟨_, _, _, _, _, _⟩) (v := .agg (pkL p ev' av' cv' vv' bw').toArray) rfl (by kernel_rfl) (by kernel_rfl) (by kernel_rfl) (fun _ _ _ h => h) (yieldsIf_mid 38 (.tmp 6) rfl tq 0 rfl (pkL p ev' av' cv' vv' bw') _ (fun w' hSw => (HQ.out w' hSw).2.1.rangeAll) Tryd.underlying38 rfl HI.out ?_) kW ?_
  · rfl
  try simp only [Act.put, List.setIfInBounds_toArray, List.set_cons_zero, List.set_cons_succ]
  refine wpAnyH_ready (rs := [14]) (by kernel_rfl) (by simp) ?_
  refine AllReadyH.cons (o := ⟨_, _, _, _, _, _⟩) rfl (fun K hK => ?_) AllReadyH.nil
  go_simp
  refine (pkSame_any G G5 p p ev av cv vv bw ev' av' cv' vv' bw' _ (HQ.out _ kW).2.2.1 (HQ.out _ kW).2.2.2.1).mono ?_
  rintro e w8 ⟨rfl, k8⟩
  rw [PK.same_refl]
  replace kW := kW.then k8 (by simp)
  clear k8
  go_wp2_with fail
  refine hK.out _ _ kW (fun _ => ?_)
  clear hK K
  try simp only [Act.put, List.setIfInBounds_toArray, List.set_cons_zero, List.set_cons_succ]
  refine wpAnyH_take (i := 15) (oi := ⟨_, _, _, _, _, _⟩) (v := ?_) rfl (by kernel_rfl) (by kernel_rfl) (by kernel_rfl) (fun _ _ _ h => h) (Or.inl ⟨by rfl, ?_⟩) kW ?_
  rotate_left
  · intro w' hSw; clear hSw; (go_simp; try with_reducible rfl)
  try simp only [Act.put, List.setIfInBounds_toArray, List.set_cons_zero, List.set_cons_succ]
  refine wpAnyH_take (i := 16) (oi := ⟨_, _, _, _, _, _⟩) (v := ?_) rfl (by kernel_rfl) (by kernel_rfl) (by kernel_rfl) (fun _ _ _ h => h) (Or.inl ⟨by rfl, ?_⟩) kW ?_
  rotate_left
  · intro w' hSw; clear hSw; (go_simp; try with_reducible rfl)
  try simp only [Act.put, List.setIfInBounds_toArray, List.set_cons_zero, List.set_cons_succ]
  refine wpAnyH_take (i := 17) (oi := ⟨_, _, _, _, _, _⟩) (v := .agg (pkL p ev' av' cv' vv' bw').toArray) rfl (by kernel_rfl) (by kernel_rfl) (by kernel_rfl) (fun _ _ _ h => h) (yieldsIf_mid 38 (.tmp 6) rfl tq 0 rfl (pkL p ev' av' cv' vv' bw') _ (fun w' hSw => (HQ.out w' hSw).2.1.rangeAll) Tryd.underlying38 rfl HI.out ?_) kW ?_
  · rfl
  try simp only [Act.put, List.setIfInBounds_toArray, List.set_cons_zero, List.set_cons_succ]
  refine wpAnyH_take (i := 18) (oi := ⟨_, _, _, _, _, _⟩) (v := .agg (pkL p ev av cv vv bw).toArray) rfl (by kernel_rfl) (by kernel_rfl) (by kernel_rfl) (fun _ _ _ h => h) (yieldsIf_mid 38 (.tmp 3) rfl tp 0 rfl (pkL p ev av cv vv bw) _ (fun w' hSw => (HQ.out w' hSw).1.rangeAll) Tryd.underlying38 rfl H3.out.2.2.2.2.1 ?_) kW ?_
  · rfl
  try simp only [Act.put, List.setIfInBounds_toArray, List.set_cons_zero, List.set_cons_succ]
  refine wpAnyH_ready (rs := [19]) (by kernel_rfl) (by simp) ?_
  refine AllReadyH.cons (o := ⟨_, _, _, _, _, _⟩) rfl (fun K hK => ?_) AllReadyH.nil
  go_simp
  refine (copyPk_any G p ev av cv vv bw _ (HQ.out _ kW).2.2.1 HP.out.2.2.2.2).mono ?_
  intro e w9 hq
  obtain ⟨G9, e9, a9, c9, v9, b9, rfl, q1, q2, q3⟩ := hq
  replace kW := kW.then q3 (by simp)
  have H9 := Lib.hid q1
  clear q1 q2 q3
  go_wp2_with fail
  refine hK.out _ _ kW (fun _ => ?_)
  clear hK K
  try simp only [Act.put, List.setIfInBounds_toArray, List.set_cons_zero, List.set_cons_succ]
  refine wpAnyH_ready (rs := [20]) (by kernel_rfl) (by simp) ?_
  refine AllReadyH.cons (o := ⟨_, _, _, _, _, _⟩) rfl (fun K hK => ?_) AllReadyH.nil
  go_simp
  refine (pkSame_any G5 G9 p p ev' av' cv' vv' bw' e9 a9 c9 v9 b9 _ (HQ.out _ kW).2.2.2.1 H9.out).mono ?_
  rintro e w10 ⟨rfl, k10⟩
  rw [PK.same_refl]
  replace kW := kW.then k10 (by simp)
  clear k10
  go_wp2_with fail
  refine hK.out _ _ kW (fun _ => ?_)
  clear hK K
  try simp only [Act.put, List.setIfInBounds_toArray, List.set_cons_zero, List.set_cons_succ]
  refine wpAnyH_take (i := 21) (oi := ⟨_, _, _, _, _, _⟩) (v := ?_) rfl (by kernel_rfl) (by kernel_rfl) (by kernel_rfl) (fun _ _ _ h => h) (Or.inl ⟨by rfl, ?_⟩) kW ?_
  rotate_left
  · intro w' hSw; clear hSw; (go_simp; try with_reducible rfl)
  try simp only [Act.put, List.setIfInBounds_toArray, List.set_cons_zero, List.set_cons_succ]
  refine wpAnyH_take (i := 22) (oi := ⟨_, _, _, _, _, _⟩) (v := ?_) rfl (by kernel_rfl) (by kernel_rfl) (by kernel_rfl) (fun _ _ _ h => h) (Or.inl ⟨by rfl, ?_⟩) kW ?_
  rotate_left
  · intro w' hSw; clear hSw; (go_simp; try with_reducible rfl)
  try simp only [Act.put, List.setIfInBounds_toArray, List.set_cons_zero, List.set_cons_succ]
  refine wpAnyH_done (by kernel_rfl) ?_ _
  go_wp2_with fail
  go_ret
  exact ⟨rfl, (HQ.out _ kW).2.2.2.2.2⟩
end Go.Proofs.YthfdkonhjpdflaaDoor
