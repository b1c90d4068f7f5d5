/-
  THE DOCUMENT's PARSERS, 7: the parts of a packet, more ways.
-/
import Derived.Test.YthfdkonhjpdflaaGreatDoorGR7a
namespace Go.Proofs.YthfdkonhjpdflaaGreatDoor
open Go.RowKit
set_option linter.unusedVariables false
set_option maxRecDepth 100000
set_option linter.unusedSimpArgs false

set_option maxHeartbeats 16000000 in
theorem bodyCf (p g : Nat) (q : PK) (r : RS) (w : World) (hk : q.kind = 7 ∨ q.kind = 12) (hv : ∀ wx F, pkV wx F q nilV nilV nilV nilV nilV) (hr : isR2 w p g r) (hb : r.l.length ≤ 1000000) :
    Calls Tryz.prog 100 #[.pointer (some ⟨p, 0, none⟩), .agg (pkL q nilV nilV nilV nilV nilV).toArray] w (bodyOut (bdS (fieldsP q.kind) (q, r, 0)) p g w) := by
  obtain ⟨k0, hk0⟩ : ∃ k, q.kind = k := ⟨_, rfl⟩
  obtain ⟨S, hS⟩ : ∃ s, bdS (fieldsP q.kind) (q, r, 0) = s := ⟨_, rfl⟩
  obtain ⟨X0, hX0⟩ : ∃ X, pkL q nilV nilV nilV nilV nilV = X := ⟨_, rfl⟩
  have xl : X0.length = 87 := by rw [← hX0]; exact pkL_len (hv w []).rn (hv w []).an
  have xo : ∀ u ∈ X0, u.oneCell' = true := by rw [← hX0]; exact pkL_one rfl rfl rfl rfl rfl
  have xk : X0.toArray[0]? = some (.int .i64 k0) := by rw [← hX0, ← hk0]; rfl
  obtain ⟨Z, hZ⟩ : ∃ Z, pkL pkZero nilV nilV nilV nilV nilV = Z := ⟨_, rfl⟩
  have zv := zv_pk
  have zl := pkZ_len
  rw [hZ] at zv zl
  obtain ⟨t, r1, h1⟩ : ∃ t r1, r.text 2048 = (t, r1) := ⟨_, _, rfl⟩
  have s1 : (r1.l ≠ [] → r.l ≠ []) ∧ t.length ≤ r.l.length := by rw [show r1 = (r.text 2048).2 by rw [h1], show t = (r.text 2048).1 by rw [h1]]; exact ⟨text_left, text_len _ _⟩
  have HG : Hid (r1.e = 0 → S = ({ q with conf := (parseCf t).1 }, r1, (parseCf t).2) ∧ firstP S.2.2 S.2.1.e = (parseCf t).2) := Lib.hid (fun he => by
    have e1 : S = ({ q with conf := (parseCf t).1 }, r1, (parseCf t).2) := by rw [← hS, bdS_cf hk]; show (({ q with conf := (rpCf r 0).1 } : PK), (rpCf r 0).2.1, (rpCf r 0).2.2) = _; rw [rpCf_good h1 he]
    exact ⟨e1, by rw [e1]; exact firstP_z he⟩)
  have HBd : Hid (r1.e ≠ 0 → firstP S.2.2 S.2.1.e = r1.e) := Lib.hid (fun he => by
    have e1 : S = ({ q with conf := (rpCf r 0).1 }, (rpCf r 0).2.1, (rpCf r 0).2.2) := by rw [← hS, bdS_cf hk]
    rw [e1, rpCf_bad h1 he]; rfl)
  have HT1 := Lib.hid (And.intro h1 s1)
  have HK1 : Hid (reqK.contains k0 = false) := Lib.hid (by rw [← hk0]; rcases hk with h | h <;> rw [h] <;> rfl)
  have b2 : (k0 == 2) = false := by rw [← hk0]; rcases hk with h | h <;> rw [h] <;> rfl
  have HK3 : Hid (confK2.contains k0 = true) := Lib.hid (by rw [← hk0]; rcases hk with h | h <;> rw [h] <;> rfl)
  clear h1 s1 hk hk0
  rw [hS, hX0]
  obtain ⟨w1, hw1⟩ : ∃ W, w.alloc (.cells X0.toArray 34) = W := ⟨_, rfl⟩
  obtain ⟨rb, hrb⟩ : ∃ n, w1.heap.size = n := ⟨_, rfl⟩
  obtain ⟨w2, hw2⟩ : ∃ W, w1.alloc (.cells Z.toArray 34) = W := ⟨_, rfl⟩
  have P0 := Lib.hid (bdA.begin hr hw1 hw2 hrb)
  have HW := Lib.hid (And.intro hw1 (And.intro hw2 (And.intro hrb zv)))
  have HX := Lib.hid (And.intro xl (And.intro xo (And.intro xk (And.intro zl (And.intro hb (And.intro hX0 hv))))))
  have iX : (Tryz.prog.info? 34).map (·.size) = some X0.length := by rw [xl]; exact info_pk
  have HI := Lib.hid iX
  clear xl xo xk zv zl hr hw1 hw2 hrb hb iX hZ hX0 hS hv
  go_enter Tryz.func100, Tryz.ntmps100
  go_upto_region 1 with (first
    | (with_reducible refine wpList_box_to _ _ rfl 34 (.tmp 1) rfl _ rfl HW.out.1 ?_)
    | (with_reducible refine wpList_alloc_to _ _ rfl 34 rfl _ HW.out.2.2.2 HW.out.2.1 ?_; rw [HW.out.2.2.1]))
  have c0 := P0.out.at HX.out.2.2.1
  go_upto_region 2 with (first
    | (go_at_call 57; refine (hasReqR k0 _).mono ?_; rintro e c1w ⟨rfl, k1⟩; rw [HK1.out]; have P1 := Lib.hid (P0.out.over k1); have c1 := P1.out.at HX.out.2.2.1; clear k1)
    | (go_at_call 59; refine (hasConfR k0 _).mono ?_; rintro e c1bw ⟨rfl, k1⟩; rw [HK3.out]; have P1b := Lib.hid (P1.out.over k1); have c1b := P1b.out.at HX.out.2.2.1; clear k1))
  go_upto_region 3 with (first
    | (go_at_call 109; refine (text2_any p g r 2048 _ P1b.out.rd (by have := HX.out.2.2.2.2.1; omega)).mono ?_; intro e u2 hq; unfold text2Post at hq; rw [HT1.out.1] at hq; obtain ⟨ue, rfl, hfr, hr, hk⟩ := hq; obtain ⟨A6, c6, G6, rfl, hb6, hn6⟩ := hfr.gives; have P2 := Lib.hid (P1b.out.read hr hk HT1.out.2.1); have B6 := Lib.hid (And.intro hb6 (show t.length ≤ 1000000 by have := HT1.out.2.2; have := HX.out.2.2.2.2.1; omega)); have c2 := P2.out.at HX.out.2.2.1; clear hr hk hfr hb6 hn6))
  try clear c0
  clear c1 c1b P0 P1
  by_cases he : r1.e = 0
  · have hg := HG.out he
    have HV := Lib.hid hg
    have he' : (r1.e != 0) = false := by simp [he]
    clear he hg
    go_upto_region 13 with (first
      | (go_at_call 110; refine (err2_any p g r1 _ P2.out.rd).mono ?_; rintro e wy ⟨rfl, rfl⟩)
      | (go_at_call 57; refine (hasReqR k0 _).mono ?_; rintro e c3w ⟨rfl, k1⟩; rw [HK1.out]; have P3 := Lib.hid (P2.out.over k1); have c3 := P3.out.at HX.out.2.2.1; have B7 := Lib.hid (And.intro (B6.out.1.keep k1 (by simp)) B6.out.2); clear k1))
    clear c2 c3
    go_upto_region 14 with (first
      | (go_at_call 35; refine (parseConf2_any G6 t _ _ B7.out.1 B7.out.2).mono ?_; rintro e u3 ⟨cv, G, rfl, i3, n3, k3⟩; have ol : cv.oneCell' = true := (by obtain ⟨A9, c9, g9, rfl, _⟩ := id i3; rfl); obtain ⟨C, hC⟩ : ∃ C, cfL (parseCf t).1 cv = C := ⟨_, rfl⟩; have cl : C.length = 3 := (by rw [← hC]; exact rfl); have co : ∀ u ∈ C, u.oneCell' = true := (by rw [← hC]; exact cfL_one _ ol); rw [hC]; obtain ⟨tc, htc⟩ : ∃ b, u3.heap.size = b := ⟨_, rfl⟩; obtain ⟨u4, hu4⟩ : ∃ W, u3.alloc (.cells (cfL cfZero nilV).toArray 31) = W := ⟨_, rfl⟩; have k4 : keepBut [] u3 u4 := hu4 ▸ (keepBut.refl [] u3).alloc _; have r4 : rowAt u4 tc 31 (cfL cfZero nilV).toArray := htc ▸ hu4 ▸ rowAt.new _ _ _; have HU := Lib.hid (And.intro hu4 htc); have HC := Lib.hid (And.intro cl co); have H3 := Lib.hid (And.intro i3 (And.intro n3 (And.intro k3 (And.intro k4 (And.intro r4 (And.intro hC ol)))))); clear i3 n3 k3 hC htc hu4 k4 r4 ol cl co)
      | (with_reducible refine wpList_alloc_to _ _ rfl 31 rfl _ zv_cf HU.out.1 ?_; rw [HU.out.2])
      | (refine wpList_store_mid rfl 31 (.tmp 11) (.tmp 67) rfl tc 0 C.toArray rfl rfl (H3.out.2.2.2.2.1.there (by rw [List.size_toArray, HC.out.1]; exact Nat.le_refl _)) (by rw [List.size_toArray, HC.out.1]; exact info_cf) (all_oneCell_toArray HC.out.2) ?_))
    have P4 := (P3.out.over H3.out.2.2.1).over H3.out.2.2.2.1
    have htb : rb < tc := by have := (P3.out.over H3.out.2.2.1).res.lt; have := HU.out.2; omega
    have k5 : keepBut [tc] u4 (u4.setCells tc 0 C) := (keepBut.refl [tc] u4).setL (.inl (by simp))
    have P5 := P4.far k5 (fun x hx => by simp at hx; omega)
    have r5 : rowAt (u4.setCells tc 0 C) tc 31 C.toArray := by
      have := H3.out.2.2.2.2.1.setL (vs := C) (o := 0)
      rw [putL_all (by rw [List.size_toArray, HC.out.1]; rfl)] at this
      exact this
    obtain ⟨q6, hq6⟩ : ∃ x, ({ q with conf := (parseCf t).1 } : PK) = x := ⟨_, rfl⟩
    obtain ⟨X6, hX6⟩ : ∃ X, pkL q6 nilV nilV cv nilV nilV = X := ⟨_, rfl⟩
    have ep : putL X0.toArray 82 C = X6.toArray := by rw [← HX.out.2.2.2.2.2.1, ← H3.out.2.2.2.2.2.1, ← hX6, ← hq6]; exact pkL_putC _ _ (HX.out.2.2.2.2.2.2 w []).rn (HX.out.2.2.2.2.2.2 w []).an
    have HT2 := Lib.hid (P5.row.there (o := 82) (n := C.toArray.size) (by rw [List.size_toArray, List.size_toArray, HC.out.1, HX.out.1]; decide))
    have P6 := P5.setL 82 C ep
    have k6 : keepBut [w.heap.size] (u4.setCells tc 0 C) ((u4.setCells tc 0 C).setCells w.heap.size 82 C) := (keepBut.refl [w.heap.size] _).setL (.inl (by simp))
    have hlo : rb < u3.heap.size := (P3.out.over H3.out.2.2.1).res.lt
    have hG : ∀ y ∈ G, rb < y ∧ y < tc ∧ w.heap.size < y := fun y hy => by
      have h1 := H3.out.2.1 y hy
      have h2 := P3.out.res.lt
      have h3 := P3.out.hi
      have h4 := HU.out.2
      omega
    have i6 := H3.out.1
    have it : itemV ((u4.setCells tc 0 C).setCells w.heap.size 82 C) G (q6, X6) := by
      have i7 := ((i6.keep H3.out.2.2.2.1 (by simp)).keep k5 (fun y hy => by have := hG y hy; simp; omega)).keep k6 (fun y hy => by have := hG y hy; simp; omega)
      rw [← hX6, ← hq6]
      exact ⟨_, _, _, _, _, rfl, ⟨(HX.out.2.2.2.2.2.2 w G).rn, (HX.out.2.2.2.2.2.2 w G).an, (HX.out.2.2.2.2.2.2 _ G).re, (HX.out.2.2.2.2.2.2 _ G).ae, i7, (HX.out.2.2.2.2.2.2 _ G).vs, (HX.out.2.2.2.2.2.2 _ G).bs⟩⟩
    have nG : newIn w ((u4.setCells tc 0 C).setCells w.heap.size 82 C) G := fun y hy => ⟨by have := hG y hy; omega, by
      have h1 := hG y hy; have h2 := HU.out.2; have h3 := H3.out.2.2.2.1.size; have h4 := k5.size; have h5 := k6.size
      omega⟩
    have HT := Lib.hid (bd_end (S := S) P6 it.len it.one HV.out.2 (fun _ => ⟨by rw [HV.out.1], G, by rw [HV.out.1, hq6]; exact it, nG, fun y hy => by have := hG y hy; omega⟩))
    have HP := Lib.hid (And.intro P6 (And.intro r5 (And.intro it.len (And.intro it.one HX.out.2.2.2.1))))
    clear P4 k5 P5 r5 ep P6 hX6 hq6 k6 htb hlo hG i6 it nG
    go_wp2_with (first
      | (refine wpList_load_mid rfl 31 (.tmp 11) rfl tc 0 rfl _ _ HP.out.2.1.rangeAll Tryz.underlying31 rfl (by rw [HC.out.1]; exact info_cf) ?_)
      | (refine wpList_store_mid rfl 31 (.tmp 70) (.tmp 69) rfl w.heap.size 82 C.toArray rfl rfl (HT2.out) (by rw [List.size_toArray, HC.out.1]; exact info_cf) (all_oneCell_toArray HC.out.2) ?_)
      | (refine wpList_load_mid rfl 34 (.tmp 3) rfl w.heap.size 0 rfl _ _ HP.out.1.row.rangeAll Tryz.underlying34 rfl (by rw [HP.out.2.2.1]; exact info_pk) ?_)
      | (refine wpList_store_mid rfl 34 (.tmp 4) (.tmp 71) rfl rb 0 X6.toArray rfl rfl (HP.out.1.res.there (by rw [List.size_toArray, List.size_toArray, HP.out.2.2.1, HP.out.2.2.2.2]; exact Nat.le_refl _)) (by rw [List.size_toArray, HP.out.2.2.1]; exact info_pk) (all_oneCell_toArray HP.out.2.2.2.1) ?_))
    refine bodyPost_ret (results_row_tmp rfl _ _ rb 34 _ (0, 0) _ rfl (bd_rs HP.out.2.2.1 HP.out.2.2.2.2 HP.out.1.res) Tryz.underlying34 rfl (by rw [List.size_toArray, HP.out.2.2.1]; exact info_pk)) rfl ?_
    exact HT.out
  · have hB := HBd.out he
    have HV := Lib.hid hB
    have HN := Lib.hid he
    have he' : (r1.e != 0) = true := by simp [he]
    clear he hB
    go_upto_region 4 with (first
      | (go_at_call 110; refine (err2_any p g r1 _ P2.out.rd).mono ?_; rintro e wy ⟨rfl, rfl⟩))
    have Pd := Lib.hid (P2.out.over ((keepBut.refl [] _).drew))
    have HF := Lib.hid (And.intro HX.out.1 (And.intro HX.out.2.1 HX.out.2.2.2.1))
    have HT := Lib.hid (bd_end (S := S) Pd.out HF.out.1 HF.out.2.1 HV.out (fun e0 => absurd e0 HN.out))
    refine wp_region_held_drew (S := fun _ => True) (by kernel_rfl) trivial (fun _ => ?_)
    refine wpAnyH_ready (rs := [0, 1]) (by kernel_rfl) (by simp) ?_
    refine AllReadyH.cons (o := ⟨_, _, _, _, _, _⟩) rfl (fun K hK => ?_) (AllReadyH.cons (o := ⟨_, _, _, _, _, _⟩) rfl (fun K hK => ?_) AllReadyH.nil)
    · refine step_load_mid rfl 34 (.tmp 3) rfl w.heap.size 0 rfl X0 _ Pd.out.row.rangeAll Tryz.underlying34 rfl (by rw [HF.out.1]; exact info_pk) ?_
      refine hK.out _ _ trivial (fun _ => ?_)
      clear hK K
      try simp only [Act.put, List.setIfInBounds_toArray, List.set_cons_zero, List.set_cons_succ]
      refine wpAnyH_ready (rs := [1]) (by kernel_rfl) (by simp) ?_
      refine AllReadyH.cons (o := ⟨_, _, _, _, _, _⟩) rfl (fun K hK => ?_) AllReadyH.nil
      go_simp
      refine hK.out _ _ trivial (fun _ => ?_)
      clear hK K
      try simp only [Act.put, List.setIfInBounds_toArray, List.set_cons_zero, List.set_cons_succ]
      refine wpAnyH_ready (rs := [2]) (by kernel_rfl) (by simp) ?_
      refine AllReadyH.cons (o := ⟨_, _, _, _, _, _⟩) rfl (fun K hK => ?_) AllReadyH.nil
      go_simp
      refine (err2_any p g r1 _ Pd.out.rd).mono ?_
      rintro e wy ⟨rfl, rfl⟩
      go_wp2_with fail
      refine hK.out _ _ trivial (fun _ => ?_)
      clear hK K
      try simp only [Act.put, List.setIfInBounds_toArray, List.set_cons_zero, List.set_cons_succ]
      refine wpAnyH_ready (rs := [3]) (by kernel_rfl) (by simp) ?_
      refine AllReadyH.cons (o := ⟨_, _, _, _, _, _⟩) rfl (fun K hK => ?_) AllReadyH.nil
      refine step_store_mid rfl 34 (.tmp 4) (.tmp 35) rfl rb 0 X0.toArray rfl rfl (Pd.out.res.there (by rw [List.size_toArray, List.size_toArray, HF.out.2.2, HF.out.1]; exact Nat.le_refl _)) (by rw [List.size_toArray, HF.out.1]; exact info_pk) (all_oneCell_toArray HF.out.2.1) ?_
      refine hK.out _ _ trivial (fun _ => ?_)
      clear hK K
      try simp only [Act.put, List.setIfInBounds_toArray, List.set_cons_zero, List.set_cons_succ]
      refine wpAnyH_ready (rs := [4]) (by kernel_rfl) (by simp) ?_
      refine AllReadyH.cons (o := ⟨_, _, _, _, _, _⟩) rfl (fun K hK => ?_) AllReadyH.nil
      go_simp
      refine hK.out _ _ trivial (fun _ => ?_)
      clear hK K
      try simp only [Act.put, List.setIfInBounds_toArray, List.set_cons_zero, List.set_cons_succ]
      refine wpAnyH_done (by kernel_rfl) ?_ _
      go_wp2_with fail
      refine bodyPost_ret (results_row_tmp rfl _ _ rb 34 _ (0, 0) _ rfl (bd_rs HF.out.1 HF.out.2.2 Pd.out.res) Tryz.underlying34 rfl (by rw [List.size_toArray, HF.out.1]; exact info_pk)) rfl ?_
      exact HT.out
    · go_simp
      refine hK.out _ _ trivial (fun _ => ?_)
      clear hK K
      try simp only [Act.put, List.setIfInBounds_toArray, List.set_cons_zero, List.set_cons_succ]
      refine wpAnyH_ready (rs := [0, 2]) (by kernel_rfl) (by simp) ?_
      refine AllReadyH.cons (o := ⟨_, _, _, _, _, _⟩) rfl (fun K hK => ?_) (AllReadyH.cons (o := ⟨_, _, _, _, _, _⟩) rfl (fun K hK => ?_) AllReadyH.nil)
      · refine step_load_mid rfl 34 (.tmp 3) rfl w.heap.size 0 rfl X0 _ Pd.out.row.rangeAll Tryz.underlying34 rfl (by rw [HF.out.1]; exact info_pk) ?_
        refine hK.out _ _ trivial (fun _ => ?_)
        clear hK K
        try simp only [Act.put, List.setIfInBounds_toArray, List.set_cons_zero, List.set_cons_succ]
        refine wpAnyH_ready (rs := [2]) (by kernel_rfl) (by simp) ?_
        refine AllReadyH.cons (o := ⟨_, _, _, _, _, _⟩) rfl (fun K hK => ?_) AllReadyH.nil
        go_simp
        refine (err2_any p g r1 _ Pd.out.rd).mono ?_
        rintro e wy ⟨rfl, rfl⟩
        go_wp2_with fail
        refine hK.out _ _ trivial (fun _ => ?_)
        clear hK K
        try simp only [Act.put, List.setIfInBounds_toArray, List.set_cons_zero, List.set_cons_succ]
        refine wpAnyH_ready (rs := [3]) (by kernel_rfl) (by simp) ?_
        refine AllReadyH.cons (o := ⟨_, _, _, _, _, _⟩) rfl (fun K hK => ?_) AllReadyH.nil
        refine step_store_mid rfl 34 (.tmp 4) (.tmp 35) rfl rb 0 X0.toArray rfl rfl (Pd.out.res.there (by rw [List.size_toArray, List.size_toArray, HF.out.2.2, HF.out.1]; exact Nat.le_refl _)) (by rw [List.size_toArray, HF.out.1]; exact info_pk) (all_oneCell_toArray HF.out.2.1) ?_
        refine hK.out _ _ trivial (fun _ => ?_)
        clear hK K
        try simp only [Act.put, List.setIfInBounds_toArray, List.set_cons_zero, List.set_cons_succ]
        refine wpAnyH_ready (rs := [4]) (by kernel_rfl) (by simp) ?_
        refine AllReadyH.cons (o := ⟨_, _, _, _, _, _⟩) rfl (fun K hK => ?_) AllReadyH.nil
        go_simp
        refine hK.out _ _ trivial (fun _ => ?_)
        clear hK K
        try simp only [Act.put, List.setIfInBounds_toArray, List.set_cons_zero, List.set_cons_succ]
        refine wpAnyH_done (by kernel_rfl) ?_ _
        go_wp2_with fail
        refine bodyPost_ret (results_row_tmp rfl _ _ rb 34 _ (0, 0) _ rfl (bd_rs HF.out.1 HF.out.2.2 Pd.out.res) Tryz.underlying34 rfl (by rw [List.size_toArray, HF.out.1]; exact info_pk)) rfl ?_
        exact HT.out
      · go_simp
        refine (err2_any p g r1 _ Pd.out.rd).mono ?_
        rintro e wy ⟨rfl, rfl⟩
        go_wp2_with fail
        refine hK.out _ _ trivial (fun _ => ?_)
        clear hK K
        try simp only [Act.put, List.setIfInBounds_toArray, List.set_cons_zero, List.set_cons_succ]
        refine wpAnyH_ready (rs := [0]) (by kernel_rfl) (by simp) ?_
        refine AllReadyH.cons (o := ⟨_, _, _, _, _, _⟩) rfl (fun K hK => ?_) AllReadyH.nil
        refine step_load_mid rfl 34 (.tmp 3) rfl w.heap.size 0 rfl X0 _ Pd.out.row.rangeAll Tryz.underlying34 rfl (by rw [HF.out.1]; exact info_pk) ?_
        refine hK.out _ _ trivial (fun _ => ?_)
        clear hK K
        try simp only [Act.put, List.setIfInBounds_toArray, List.set_cons_zero, List.set_cons_succ]
        refine wpAnyH_ready (rs := [3]) (by kernel_rfl) (by simp) ?_
        refine AllReadyH.cons (o := ⟨_, _, _, _, _, _⟩) rfl (fun K hK => ?_) AllReadyH.nil
        refine step_store_mid rfl 34 (.tmp 4) (.tmp 35) rfl rb 0 X0.toArray rfl rfl (Pd.out.res.there (by rw [List.size_toArray, List.size_toArray, HF.out.2.2, HF.out.1]; exact Nat.le_refl _)) (by rw [List.size_toArray, HF.out.1]; exact info_pk) (all_oneCell_toArray HF.out.2.1) ?_
        refine hK.out _ _ trivial (fun _ => ?_)
        clear hK K
        try simp only [Act.put, List.setIfInBounds_toArray, List.set_cons_zero, List.set_cons_succ]
        refine wpAnyH_ready (rs := [4]) (by kernel_rfl) (by simp) ?_
        refine AllReadyH.cons (o := ⟨_, _, _, _, _, _⟩) rfl (fun K hK => ?_) AllReadyH.nil
        go_simp
        refine hK.out _ _ trivial (fun _ => ?_)
        clear hK K
        try simp only [Act.put, List.setIfInBounds_toArray, List.set_cons_zero, List.set_cons_succ]
        refine wpAnyH_done (by kernel_rfl) ?_ _
        go_wp2_with fail
        refine bodyPost_ret (results_row_tmp rfl _ _ rb 34 _ (0, 0) _ rfl (bd_rs HF.out.1 HF.out.2.2 Pd.out.res) Tryz.underlying34 rfl (by rw [List.size_toArray, HF.out.1]; exact info_pk)) rfl ?_
        exact HT.out
set_option maxHeartbeats 16000000 in
theorem bodyNo (p g : Nat) (q : PK) (r : RS) (w : World) (hk : q.kind = 4 ∨ q.kind = 5 ∨ q.kind = 8 ∨ q.kind = 9 ∨ q.kind = 10 ∨ q.kind = 13 ∨ q.kind = 14) (hv : ∀ wx F, pkV wx F q nilV nilV nilV nilV nilV) (hr : isR2 w p g r) (hb : r.l.length ≤ 1000000) :
    Calls Tryz.prog 100 #[.pointer (some ⟨p, 0, none⟩), .agg (pkL q nilV nilV nilV nilV nilV).toArray] w (bodyOut (bdS (fieldsP q.kind) (q, r, 0)) p g w) := by
  obtain ⟨k0, hk0⟩ : ∃ k, q.kind = k := ⟨_, rfl⟩
  obtain ⟨S, hS⟩ : ∃ s, bdS (fieldsP q.kind) (q, r, 0) = s := ⟨_, rfl⟩
  obtain ⟨X0, hX0⟩ : ∃ X, pkL q nilV nilV nilV nilV nilV = X := ⟨_, rfl⟩
  have xl : X0.length = 87 := by rw [← hX0]; exact pkL_len (hv w []).rn (hv w []).an
  have xo : ∀ u ∈ X0, u.oneCell' = true := by rw [← hX0]; exact pkL_one rfl rfl rfl rfl rfl
  have xk : X0.toArray[0]? = some (.int .i64 k0) := by rw [← hX0, ← hk0]; rfl
  obtain ⟨Z, hZ⟩ : ∃ Z, pkL pkZero nilV nilV nilV nilV nilV = Z := ⟨_, rfl⟩
  have zv := zv_pk
  have zl := pkZ_len
  rw [hZ] at zv zl
  have HS0 : Hid (S = (q, r, 0)) := Lib.hid (by rw [← hS]; exact bdS_no hk _)
  have HK1 : Hid (reqK.contains k0 = false) := Lib.hid (by rw [← hk0]; rcases hk with h | h | h | h | h | h | h <;> rw [h] <;> rfl)
  have HK3 : Hid (confK2.contains k0 = false) := Lib.hid (by rw [← hk0]; rcases hk with h | h | h | h | h | h | h <;> rw [h] <;> rfl)
  have b2 : (k0 == 2) = false := by rw [← hk0]; rcases hk with h | h | h | h | h | h | h <;> rw [h] <;> rfl
  have b6 : (k0 == 6) = false := by rw [← hk0]; rcases hk with h | h | h | h | h | h | h <;> rw [h] <;> rfl
  have b11 : (k0 == 11) = false := by rw [← hk0]; rcases hk with h | h | h | h | h | h | h <;> rw [h] <;> rfl
  clear hk hk0
  rw [hS, hX0]
  obtain ⟨w1, hw1⟩ : ∃ W, w.alloc (.cells X0.toArray 34) = W := ⟨_, rfl⟩
  obtain ⟨rb, hrb⟩ : ∃ n, w1.heap.size = n := ⟨_, rfl⟩
  obtain ⟨w2, hw2⟩ : ∃ W, w1.alloc (.cells Z.toArray 34) = W := ⟨_, rfl⟩
  have P0 := Lib.hid (bdA.begin hr hw1 hw2 hrb)
  have HW := Lib.hid (And.intro hw1 (And.intro hw2 (And.intro hrb zv)))
  have HX := Lib.hid (And.intro xl (And.intro xo (And.intro xk (And.intro zl (And.intro hb (And.intro hX0 hv))))))
  have iX : (Tryz.prog.info? 34).map (·.size) = some X0.length := by rw [xl]; exact info_pk
  have HI := Lib.hid iX
  clear xl xo xk zv zl hr hw1 hw2 hrb hb iX hZ hX0 hS hv
  go_enter Tryz.func100, Tryz.ntmps100
  go_upto_region 1 with (first
    | (with_reducible refine wpList_box_to _ _ rfl 34 (.tmp 1) rfl _ rfl HW.out.1 ?_)
    | (with_reducible refine wpList_alloc_to _ _ rfl 34 rfl _ HW.out.2.2.2 HW.out.2.1 ?_; rw [HW.out.2.2.1]))
  have c0 := P0.out.at HX.out.2.2.1
  go_upto_region 2 with (first
    | (go_at_call 57; refine (hasReqR k0 _).mono ?_; rintro e c1w ⟨rfl, k1⟩; rw [HK1.out]; have P1 := Lib.hid (P0.out.over k1); have c1 := P1.out.at HX.out.2.2.1; clear k1)
    | (go_at_call 59; refine (hasConfR k0 _).mono ?_; rintro e c2w ⟨rfl, k1⟩; rw [HK3.out]; have P2 := Lib.hid (P1.out.over k1); have c2 := P2.out.at HX.out.2.2.1; clear k1))
  clear c0 c1
  go_upto_region 27 with fail
  clear c2
  have Pd := Lib.hid (P2.out.over ((keepBut.refl [] _).drew))
  have HF := Lib.hid (And.intro HX.out.1 (And.intro HX.out.2.1 HX.out.2.2.2.1))
  have HT := Lib.hid (bd_end (S := S) Pd.out HF.out.1 HF.out.2.1 (show firstP S.2.2 S.2.1.e = r.e by rw [HS0.out]; rfl) (fun _ => ⟨by rw [HS0.out], [], by rw [HS0.out, ← HX.out.2.2.2.2.2.1]; exact ⟨_, _, _, _, _, rfl, HX.out.2.2.2.2.2.2 _ _⟩, by simp [newIn], by simp⟩))
  refine wp_region_held_drew (S := fun _ => True) (by kernel_rfl) trivial (fun _ => ?_)
  refine wpAnyH_ready (rs := [0, 1]) (by kernel_rfl) (by simp) ?_
  refine AllReadyH.cons (o := ⟨_, _, _, _, _, _⟩) rfl (fun K hK => ?_) (AllReadyH.cons (o := ⟨_, _, _, _, _, _⟩) rfl (fun K hK => ?_) AllReadyH.nil)
  · refine step_load_mid rfl 34 (.tmp 3) rfl w.heap.size 0 rfl X0 _ Pd.out.row.rangeAll Tryz.underlying34 rfl (by rw [HF.out.1]; exact info_pk) ?_
    refine hK.out _ _ trivial (fun _ => ?_)
    clear hK K
    try simp only [Act.put, List.setIfInBounds_toArray, List.set_cons_zero, List.set_cons_succ]
    refine wpAnyH_ready (rs := [1]) (by kernel_rfl) (by simp) ?_
    refine AllReadyH.cons (o := ⟨_, _, _, _, _, _⟩) rfl (fun K hK => ?_) AllReadyH.nil
    go_simp
    refine hK.out _ _ trivial (fun _ => ?_)
    clear hK K
    try simp only [Act.put, List.setIfInBounds_toArray, List.set_cons_zero, List.set_cons_succ]
    refine wpAnyH_ready (rs := [2]) (by kernel_rfl) (by simp) ?_
    refine AllReadyH.cons (o := ⟨_, _, _, _, _, _⟩) rfl (fun K hK => ?_) AllReadyH.nil
    go_simp
    refine (err2_any p g r _ Pd.out.rd).mono ?_
    rintro e wy ⟨rfl, rfl⟩
    go_wp2_with fail
    refine hK.out _ _ trivial (fun _ => ?_)
    clear hK K
    try simp only [Act.put, List.setIfInBounds_toArray, List.set_cons_zero, List.set_cons_succ]
    refine wpAnyH_ready (rs := [3]) (by kernel_rfl) (by simp) ?_
    refine AllReadyH.cons (o := ⟨_, _, _, _, _, _⟩) rfl (fun K hK => ?_) AllReadyH.nil
    refine step_store_mid rfl 34 (.tmp 4) (.tmp 108) rfl rb 0 X0.toArray rfl rfl (Pd.out.res.there (by rw [List.size_toArray, List.size_toArray, HF.out.2.2, HF.out.1]; exact Nat.le_refl _)) (by rw [List.size_toArray, HF.out.1]; exact info_pk) (all_oneCell_toArray HF.out.2.1) ?_
    refine hK.out _ _ trivial (fun _ => ?_)
    clear hK K
    try simp only [Act.put, List.setIfInBounds_toArray, List.set_cons_zero, List.set_cons_succ]
    refine wpAnyH_ready (rs := [4]) (by kernel_rfl) (by simp) ?_
    refine AllReadyH.cons (o := ⟨_, _, _, _, _, _⟩) rfl (fun K hK => ?_) AllReadyH.nil
    go_simp
    refine hK.out _ _ trivial (fun _ => ?_)
    clear hK K
    try simp only [Act.put, List.setIfInBounds_toArray, List.set_cons_zero, List.set_cons_succ]
    refine wpAnyH_done (by kernel_rfl) ?_ _
    go_wp2_with fail
    refine bodyPost_ret (results_row_tmp rfl _ _ rb 34 _ (0, 0) _ rfl (bd_rs HF.out.1 HF.out.2.2 Pd.out.res) Tryz.underlying34 rfl (by rw [List.size_toArray, HF.out.1]; exact info_pk)) rfl ?_
    exact HT.out
  · go_simp
    refine hK.out _ _ trivial (fun _ => ?_)
    clear hK K
    try simp only [Act.put, List.setIfInBounds_toArray, List.set_cons_zero, List.set_cons_succ]
    refine wpAnyH_ready (rs := [0, 2]) (by kernel_rfl) (by simp) ?_
    refine AllReadyH.cons (o := ⟨_, _, _, _, _, _⟩) rfl (fun K hK => ?_) (AllReadyH.cons (o := ⟨_, _, _, _, _, _⟩) rfl (fun K hK => ?_) AllReadyH.nil)
    · refine step_load_mid rfl 34 (.tmp 3) rfl w.heap.size 0 rfl X0 _ Pd.out.row.rangeAll Tryz.underlying34 rfl (by rw [HF.out.1]; exact info_pk) ?_
      refine hK.out _ _ trivial (fun _ => ?_)
      clear hK K
      try simp only [Act.put, List.setIfInBounds_toArray, List.set_cons_zero, List.set_cons_succ]
      refine wpAnyH_ready (rs := [2]) (by kernel_rfl) (by simp) ?_
      refine AllReadyH.cons (o := ⟨_, _, _, _, _, _⟩) rfl (fun K hK => ?_) AllReadyH.nil
      go_simp
      refine (err2_any p g r _ Pd.out.rd).mono ?_
      rintro e wy ⟨rfl, rfl⟩
      go_wp2_with fail
      refine hK.out _ _ trivial (fun _ => ?_)
      clear hK K
      try simp only [Act.put, List.setIfInBounds_toArray, List.set_cons_zero, List.set_cons_succ]
      refine wpAnyH_ready (rs := [3]) (by kernel_rfl) (by simp) ?_
      refine AllReadyH.cons (o := ⟨_, _, _, _, _, _⟩) rfl (fun K hK => ?_) AllReadyH.nil
      refine step_store_mid rfl 34 (.tmp 4) (.tmp 108) rfl rb 0 X0.toArray rfl rfl (Pd.out.res.there (by rw [List.size_toArray, List.size_toArray, HF.out.2.2, HF.out.1]; exact Nat.le_refl _)) (by rw [List.size_toArray, HF.out.1]; exact info_pk) (all_oneCell_toArray HF.out.2.1) ?_
      refine hK.out _ _ trivial (fun _ => ?_)
      clear hK K
      try simp only [Act.put, List.setIfInBounds_toArray, List.set_cons_zero, List.set_cons_succ]
      refine wpAnyH_ready (rs := [4]) (by kernel_rfl) (by simp) ?_
      refine AllReadyH.cons (o := ⟨_, _, _, _, _, _⟩) rfl (fun K hK => ?_) AllReadyH.nil
      go_simp
      refine hK.out _ _ trivial (fun _ => ?_)
      clear hK K
      try simp only [Act.put, List.setIfInBounds_toArray, List.set_cons_zero, List.set_cons_succ]
      refine wpAnyH_done (by kernel_rfl) ?_ _
      go_wp2_with fail
      refine bodyPost_ret (results_row_tmp rfl _ _ rb 34 _ (0, 0) _ rfl (bd_rs HF.out.1 HF.out.2.2 Pd.out.res) Tryz.underlying34 rfl (by rw [List.size_toArray, HF.out.1]; exact info_pk)) rfl ?_
      exact HT.out
    · go_simp
      refine (err2_any p g r _ Pd.out.rd).mono ?_
      rintro e wy ⟨rfl, rfl⟩
      go_wp2_with fail
      refine hK.out _ _ trivial (fun _ => ?_)
      clear hK K
      try simp only [Act.put, List.setIfInBounds_toArray, List.set_cons_zero, List.set_cons_succ]
      refine wpAnyH_ready (rs := [0]) (by kernel_rfl) (by simp) ?_
      refine AllReadyH.cons (o := ⟨_, _, _, _, _, _⟩) rfl (fun K hK => ?_) AllReadyH.nil
      refine step_load_mid rfl 34 (.tmp 3) rfl w.heap.size 0 rfl X0 _ Pd.out.row.rangeAll Tryz.underlying34 rfl (by rw [HF.out.1]; exact info_pk) ?_
      refine hK.out _ _ trivial (fun _ => ?_)
      clear hK K
      try simp only [Act.put, List.setIfInBounds_toArray, List.set_cons_zero, List.set_cons_succ]
      refine wpAnyH_ready (rs := [3]) (by kernel_rfl) (by simp) ?_
      refine AllReadyH.cons (o := ⟨_, _, _, _, _, _⟩) rfl (fun K hK => ?_) AllReadyH.nil
      refine step_store_mid rfl 34 (.tmp 4) (.tmp 108) rfl rb 0 X0.toArray rfl rfl (Pd.out.res.there (by rw [List.size_toArray, List.size_toArray, HF.out.2.2, HF.out.1]; exact Nat.le_refl _)) (by rw [List.size_toArray, HF.out.1]; exact info_pk) (all_oneCell_toArray HF.out.2.1) ?_
      refine hK.out _ _ trivial (fun _ => ?_)
      clear hK K
      try simp only [Act.put, List.setIfInBounds_toArray, List.set_cons_zero, List.set_cons_succ]
      refine wpAnyH_ready (rs := [4]) (by kernel_rfl) (by simp) ?_
      refine AllReadyH.cons (o := ⟨_, _, _, _, _, _⟩) rfl (fun K hK => ?_) AllReadyH.nil
      go_simp
      refine hK.out _ _ trivial (fun _ => ?_)
      clear hK K
      try simp only [Act.put, List.setIfInBounds_toArray, List.set_cons_zero, List.set_cons_succ]
      refine wpAnyH_done (by kernel_rfl) ?_ _
      go_wp2_with fail
      refine bodyPost_ret (results_row_tmp rfl _ _ rb 34 _ (0, 0) _ rfl (bd_rs HF.out.1 HF.out.2.2 Pd.out.res) Tryz.underlying34 rfl (by rw [List.size_toArray, HF.out.1]; exact info_pk)) rfl ?_
      exact HT.out
set_option maxHeartbeats 16000000 in
theorem bodyBs (p g : Nat) (q : PK) (r : RS) (w : World) (hk : q.kind = 6) (hv : ∀ wx F, pkV wx F q nilV nilV nilV nilV nilV) (hr : isR2 w p g r) (hb : r.l.length ≤ 1000000) :
    Calls Tryz.prog 100 #[.pointer (some ⟨p, 0, none⟩), .agg (pkL q nilV nilV nilV nilV nilV).toArray] w (bodyOut (bdS (fieldsP q.kind) (q, r, 0)) p g w) := by
  obtain ⟨k0, hk0⟩ : ∃ k, q.kind = k := ⟨_, rfl⟩
  obtain ⟨S, hS⟩ : ∃ s, bdS (fieldsP q.kind) (q, r, 0) = s := ⟨_, rfl⟩
  obtain ⟨X0, hX0⟩ : ∃ X, pkL q nilV nilV nilV nilV nilV = X := ⟨_, rfl⟩
  have xl : X0.length = 87 := by rw [← hX0]; exact pkL_len (hv w []).rn (hv w []).an
  have xo : ∀ u ∈ X0, u.oneCell' = true := by rw [← hX0]; exact pkL_one rfl rfl rfl rfl rfl
  have xk : X0.toArray[0]? = some (.int .i64 k0) := by rw [← hX0, ← hk0]; rfl
  obtain ⟨Z, hZ⟩ : ∃ Z, pkL pkZero nilV nilV nilV nilV nilV = Z := ⟨_, rfl⟩
  have zv := zv_pk
  have zl := pkZ_len
  rw [hZ] at zv zl
  obtain ⟨t, r1, h1⟩ : ∃ t r1, r.text 32768 = (t, r1) := ⟨_, _, rfl⟩
  have s1 : (r1.l ≠ [] → r.l ≠ []) := by rw [show r1 = (r.text 32768).2 by rw [h1]]; exact text_left
  have HS0 : Hid (S = ({ q with bytes := t }, r1, 0)) := Lib.hid (by rw [← hS, show fieldsP q.kind = fieldsP 6 by rw [hk], bdS_bs]; show (({ q with bytes := (r.text 32768).1 } : PK), (r.text 32768).2, (0 : Int)) = _; rw [h1])
  have HT1 := Lib.hid (And.intro h1 s1)
  have HK1 : Hid (reqK.contains k0 = false) := Lib.hid (by rw [← hk0, hk]; rfl)
  have HK3 : Hid (confK2.contains k0 = false) := Lib.hid (by rw [← hk0, hk]; rfl)
  have b2 : (k0 == 2) = false := by rw [← hk0, hk]; rfl
  have b6 : (k0 == 6) = true := by rw [← hk0, hk]; rfl
  have b11 : (k0 == 11) = false := by rw [← hk0, hk]; rfl
  have HK0 := Lib.hid hk0
  clear h1 s1 hk hk0
  rw [hS, hX0]
  obtain ⟨w1, hw1⟩ : ∃ W, w.alloc (.cells X0.toArray 34) = W := ⟨_, rfl⟩
  obtain ⟨rb, hrb⟩ : ∃ n, w1.heap.size = n := ⟨_, rfl⟩
  obtain ⟨w2, hw2⟩ : ∃ W, w1.alloc (.cells Z.toArray 34) = W := ⟨_, rfl⟩
  have P0 := Lib.hid (bdA.begin hr hw1 hw2 hrb)
  have HW := Lib.hid (And.intro hw1 (And.intro hw2 (And.intro hrb zv)))
  have HX := Lib.hid (And.intro xl (And.intro xo (And.intro xk (And.intro zl (And.intro hb (And.intro hX0 hv))))))
  have iX : (Tryz.prog.info? 34).map (·.size) = some X0.length := by rw [xl]; exact info_pk
  have HI := Lib.hid iX
  clear xl xo xk zv zl hr hw1 hw2 hrb hb iX hZ hX0 hS hv
  go_enter Tryz.func100, Tryz.ntmps100
  go_upto_region 1 with (first
    | (with_reducible refine wpList_box_to _ _ rfl 34 (.tmp 1) rfl _ rfl HW.out.1 ?_)
    | (with_reducible refine wpList_alloc_to _ _ rfl 34 rfl _ HW.out.2.2.2 HW.out.2.1 ?_; rw [HW.out.2.2.1]))
  have c0 := P0.out.at HX.out.2.2.1
  go_upto_region 2 with (first
    | (go_at_call 57; refine (hasReqR k0 _).mono ?_; rintro e c1w ⟨rfl, k1⟩; rw [HK1.out]; have P1 := Lib.hid (P0.out.over k1); have c1 := P1.out.at HX.out.2.2.1; clear k1)
    | (go_at_call 59; refine (hasConfR k0 _).mono ?_; rintro e c2w ⟨rfl, k1⟩; rw [HK3.out]; have P2 := Lib.hid (P1.out.over k1); have c2 := P2.out.at HX.out.2.2.1; clear k1))
  clear c0 c1
  go_upto_region 18 with (first
    | (go_at_call 109; refine (text2_any p g r 32768 _ P2.out.rd (by have := HX.out.2.2.2.2.1; omega)).mono ?_; intro e u2 hq; unfold text2Post at hq; rw [HT1.out.1] at hq; obtain ⟨ue, rfl, hfr, hr, hk⟩ := hq; obtain ⟨A6, c6, G6, rfl, hb6, hn6⟩ := hfr.gives; have P3 := Lib.hid (P2.out.read hr hk HT1.out.2); have B6 := Lib.hid (And.intro hb6 hn6); have y : u2.cell? ⟨w.heap.size, 86, none⟩ = some nilV := (by have hp := P3.out.row; rw [← HX.out.2.2.2.2.2.1] at hp; exact (hp.pk (HX.out.2.2.2.2.2.2 w []).rn (HX.out.2.2.2.2.2.2 w []).an).d4); have y2 := P3.out.row.free 86; clear hr hk hfr hb6 hn6))
  clear c2
  obtain ⟨q6, hq6⟩ : ∃ x, ({ q with bytes := t } : PK) = x := ⟨_, rfl⟩
  obtain ⟨X6, hX6⟩ : ∃ X, pkL q6 nilV nilV nilV nilV (.slice A6 t.length c6) = X := ⟨_, rfl⟩
  have rn := (HX.out.2.2.2.2.2.2 w []).rn
  have an := (HX.out.2.2.2.2.2.2 w []).an
  have P4 := Lib.hid (P3.out.set 86 (.slice A6 t.length c6) (show X0.toArray.setIfInBounds 86 (.slice A6 t.length c6) = X6.toArray by rw [← HX.out.2.2.2.2.2.1, ← hX6, ← hq6]; exact pkL_bytes rn an _ _))
  have k6 : keepBut [w.heap.size] u2 (u2.setCell ⟨w.heap.size, 86, none⟩ (.slice A6 t.length c6)) := (keepBut.refl [w.heap.size] _).setCell _ _ (.inl (by simp))
  have hG : ∀ y ∈ G6, rb < y := fun y hy => by have h1 := B6.out.2 y hy; have h2 := P2.out.res.lt; omega
  have hi := P3.out.hi
  have it : itemV (u2.setCell ⟨w.heap.size, 86, none⟩ (.slice A6 t.length c6)) G6 (q6, X6) := by
    rw [← hX6, ← hq6]
    exact ⟨_, _, _, _, _, rfl, rn, an, (HX.out.2.2.2.2.2.2 _ G6).re, (HX.out.2.2.2.2.2.2 _ G6).ae, (HX.out.2.2.2.2.2.2 _ G6).cc, (HX.out.2.2.2.2.2.2 _ G6).vs, B6.out.1.keep k6 (fun y hy => by have := hG y hy; simp; omega)⟩
  have nG : newIn w (u2.setCell ⟨w.heap.size, 86, none⟩ (.slice A6 t.length c6)) G6 := fun y hy => ⟨by have := hG y hy; omega, by have h1 := B6.out.2 y hy; have h2 := k6.size; omega⟩
  have IT := Lib.hid (And.intro it (And.intro nG (fun y hy => (by have := hG y hy; omega : y ≠ rb))))
  have HS1 := Lib.hid (show S.1 = q6 by rw [HS0.out]; exact hq6)
  have c4 := P4.out.at (k := 0) (v := .int .i64 k0) (by rw [← hX6, ← hq6, ← HK0.out]; rfl)
  clear rn an k6 hG hi it nG hX6 hq6 y y2 P3 B6
  obtain ⟨u4, hu4⟩ : ∃ W, u2.setCell ⟨w.heap.size, 86, none⟩ (.slice A6 t.length c6) = W := ⟨_, rfl⟩
  rw [hu4] at P4 IT c4
  rw [hu4]
  clear hu4
  go_upto_region 27 with fail
  clear c4
  have Pd := Lib.hid (P4.out.over ((keepBut.refl [] _).drew))
  have HF := Lib.hid (And.intro IT.out.1.len (And.intro IT.out.1.one HX.out.2.2.2.1))
  have HT := Lib.hid (bd_end (S := S) Pd.out HF.out.1 HF.out.2.1 (show firstP S.2.2 S.2.1.e = r1.e by rw [HS0.out]; rfl) (fun _ => ⟨by rw [HS0.out], G6, by rw [HS1.out]; exact IT.out.1.keep ((keepBut.refl [] _).drew) (by simp), fun y hy => IT.out.2.1 y hy, IT.out.2.2⟩))
  refine wp_region_held_drew (S := fun _ => True) (by kernel_rfl) trivial (fun _ => ?_)
  refine wpAnyH_ready (rs := [0, 1]) (by kernel_rfl) (by simp) ?_
  refine AllReadyH.cons (o := ⟨_, _, _, _, _, _⟩) rfl (fun K hK => ?_) (AllReadyH.cons (o := ⟨_, _, _, _, _, _⟩) rfl (fun K hK => ?_) AllReadyH.nil)
  · refine step_load_mid rfl 34 (.tmp 3) rfl w.heap.size 0 rfl X6 _ Pd.out.row.rangeAll Tryz.underlying34 rfl (by rw [HF.out.1]; exact info_pk) ?_
    refine hK.out _ _ trivial (fun _ => ?_)
    clear hK K
    try simp only [Act.put, List.setIfInBounds_toArray, List.set_cons_zero, List.set_cons_succ]
    refine wpAnyH_ready (rs := [1]) (by kernel_rfl) (by simp) ?_
    refine AllReadyH.cons (o := ⟨_, _, _, _, _, _⟩) rfl (fun K hK => ?_) AllReadyH.nil
    go_simp
    refine hK.out _ _ trivial (fun _ => ?_)
    clear hK K
    try simp only [Act.put, List.setIfInBounds_toArray, List.set_cons_zero, List.set_cons_succ]
    refine wpAnyH_ready (rs := [2]) (by kernel_rfl) (by simp) ?_
    refine AllReadyH.cons (o := ⟨_, _, _, _, _, _⟩) rfl (fun K hK => ?_) AllReadyH.nil
    go_simp
    refine (err2_any p g r1 _ Pd.out.rd).mono ?_
    rintro e wy ⟨rfl, rfl⟩
    go_wp2_with fail
    refine hK.out _ _ trivial (fun _ => ?_)
    clear hK K
    try simp only [Act.put, List.setIfInBounds_toArray, List.set_cons_zero, List.set_cons_succ]
    refine wpAnyH_ready (rs := [3]) (by kernel_rfl) (by simp) ?_
    refine AllReadyH.cons (o := ⟨_, _, _, _, _, _⟩) rfl (fun K hK => ?_) AllReadyH.nil
    refine step_store_mid rfl 34 (.tmp 4) (.tmp 108) rfl rb 0 X6.toArray rfl rfl (Pd.out.res.there (by rw [List.size_toArray, List.size_toArray, HF.out.2.2, HF.out.1]; exact Nat.le_refl _)) (by rw [List.size_toArray, HF.out.1]; exact info_pk) (all_oneCell_toArray HF.out.2.1) ?_
    refine hK.out _ _ trivial (fun _ => ?_)
    clear hK K
    try simp only [Act.put, List.setIfInBounds_toArray, List.set_cons_zero, List.set_cons_succ]
    refine wpAnyH_ready (rs := [4]) (by kernel_rfl) (by simp) ?_
    refine AllReadyH.cons (o := ⟨_, _, _, _, _, _⟩) rfl (fun K hK => ?_) AllReadyH.nil
    go_simp
    refine hK.out _ _ trivial (fun _ => ?_)
    clear hK K
    try simp only [Act.put, List.setIfInBounds_toArray, List.set_cons_zero, List.set_cons_succ]
    refine wpAnyH_done (by kernel_rfl) ?_ _
    go_wp2_with fail
    refine bodyPost_ret (results_row_tmp rfl _ _ rb 34 _ (0, 0) _ rfl (bd_rs HF.out.1 HF.out.2.2 Pd.out.res) Tryz.underlying34 rfl (by rw [List.size_toArray, HF.out.1]; exact info_pk)) rfl ?_
    exact HT.out
  · go_simp
    refine hK.out _ _ trivial (fun _ => ?_)
    clear hK K
    try simp only [Act.put, List.setIfInBounds_toArray, List.set_cons_zero, List.set_cons_succ]
    refine wpAnyH_ready (rs := [0, 2]) (by kernel_rfl) (by simp) ?_
    refine AllReadyH.cons (o := ⟨_, _, _, _, _, _⟩) rfl (fun K hK => ?_) (AllReadyH.cons (o := ⟨_, _, _, _, _, _⟩) rfl (fun K hK => ?_) AllReadyH.nil)
    · refine step_load_mid rfl 34 (.tmp 3) rfl w.heap.size 0 rfl X6 _ Pd.out.row.rangeAll Tryz.underlying34 rfl (by rw [HF.out.1]; exact info_pk) ?_
      refine hK.out _ _ trivial (fun _ => ?_)
      clear hK K
      try simp only [Act.put, List.setIfInBounds_toArray, List.set_cons_zero, List.set_cons_succ]
      refine wpAnyH_ready (rs := [2]) (by kernel_rfl) (by simp) ?_
      refine AllReadyH.cons (o := ⟨_, _, _, _, _, _⟩) rfl (fun K hK => ?_) AllReadyH.nil
      go_simp
      refine (err2_any p g r1 _ Pd.out.rd).mono ?_
      rintro e wy ⟨rfl, rfl⟩
      go_wp2_with fail
      refine hK.out _ _ trivial (fun _ => ?_)
      clear hK K
      try simp only [Act.put, List.setIfInBounds_toArray, List.set_cons_zero, List.set_cons_succ]
      refine wpAnyH_ready (rs := [3]) (by kernel_rfl) (by simp) ?_
      refine AllReadyH.cons (o := ⟨_, _, _, _, _, _⟩) rfl (fun K hK => ?_) AllReadyH.nil
      refine step_store_mid rfl 34 (.tmp 4) (.tmp 108) rfl rb 0 X6.toArray rfl rfl (Pd.out.res.there (by rw [List.size_toArray, List.size_toArray, HF.out.2.2, HF.out.1]; exact Nat.le_refl _)) (by rw [List.size_toArray, HF.out.1]; exact info_pk) (all_oneCell_toArray HF.out.2.1) ?_
      refine hK.out _ _ trivial (fun _ => ?_)
      clear hK K
      try simp only [Act.put, List.setIfInBounds_toArray, List.set_cons_zero, List.set_cons_succ]
      refine wpAnyH_ready (rs := [4]) (by kernel_rfl) (by simp) ?_
      refine AllReadyH.cons (o := ⟨_, _, _, _, _, _⟩) rfl (fun K hK => ?_) AllReadyH.nil
      go_simp
      refine hK.out _ _ trivial (fun _ => ?_)
      clear hK K
      try simp only [Act.put, List.setIfInBounds_toArray, List.set_cons_zero, List.set_cons_succ]
      refine wpAnyH_done (by kernel_rfl) ?_ _
      go_wp2_with fail
      refine bodyPost_ret (results_row_tmp rfl _ _ rb 34 _ (0, 0) _ rfl (bd_rs HF.out.1 HF.out.2.2 Pd.out.res) Tryz.underlying34 rfl (by rw [List.size_toArray, HF.out.1]; exact info_pk)) rfl ?_
      exact HT.out
    · go_simp
      refine (err2_any p g r1 _ Pd.out.rd).mono ?_
      rintro e wy ⟨rfl, rfl⟩
      go_wp2_with fail
      refine hK.out _ _ trivial (fun _ => ?_)
      clear hK K
      try simp only [Act.put, List.setIfInBounds_toArray, List.set_cons_zero, List.set_cons_succ]
      refine wpAnyH_ready (rs := [0]) (by kernel_rfl) (by simp) ?_
      refine AllReadyH.cons (o := ⟨_, _, _, _, _, _⟩) rfl (fun K hK => ?_) AllReadyH.nil
      refine step_load_mid rfl 34 (.tmp 3) rfl w.heap.size 0 rfl X6 _ Pd.out.row.rangeAll Tryz.underlying34 rfl (by rw [HF.out.1]; exact info_pk) ?_
      refine hK.out _ _ trivial (fun _ => ?_)
      clear hK K
      try simp only [Act.put, List.setIfInBounds_toArray, List.set_cons_zero, List.set_cons_succ]
      refine wpAnyH_ready (rs := [3]) (by kernel_rfl) (by simp) ?_
      refine AllReadyH.cons (o := ⟨_, _, _, _, _, _⟩) rfl (fun K hK => ?_) AllReadyH.nil
      refine step_store_mid rfl 34 (.tmp 4) (.tmp 108) rfl rb 0 X6.toArray rfl rfl (Pd.out.res.there (by rw [List.size_toArray, List.size_toArray, HF.out.2.2, HF.out.1]; exact Nat.le_refl _)) (by rw [List.size_toArray, HF.out.1]; exact info_pk) (all_oneCell_toArray HF.out.2.1) ?_
      refine hK.out _ _ trivial (fun _ => ?_)
      clear hK K
      try simp only [Act.put, List.setIfInBounds_toArray, List.set_cons_zero, List.set_cons_succ]
      refine wpAnyH_ready (rs := [4]) (by kernel_rfl) (by simp) ?_
      refine AllReadyH.cons (o := ⟨_, _, _, _, _, _⟩) rfl (fun K hK => ?_) AllReadyH.nil
      go_simp
      refine hK.out _ _ trivial (fun _ => ?_)
      clear hK K
      try simp only [Act.put, List.setIfInBounds_toArray, List.set_cons_zero, List.set_cons_succ]
      refine wpAnyH_done (by kernel_rfl) ?_ _
      go_wp2_with fail
      refine bodyPost_ret (results_row_tmp rfl _ _ rb 34 _ (0, 0) _ rfl (bd_rs HF.out.1 HF.out.2.2 Pd.out.res) Tryz.underlying34 rfl (by rw [List.size_toArray, HF.out.1]; exact info_pk)) rfl ?_
      exact HT.out
end Go.Proofs.YthfdkonhjpdflaaGreatDoor
