/-
  TABLEONCE: the law's walk.
-/
import Derived.Test.YtmlmhnhilemjhaaDoorTBX
namespace Go.Proofs.YtmlmhnhilemjhaaDoor
open Go.RowKit
set_option linter.unusedVariables false
set_option maxRecDepth 100000
set_option linter.unusedSimpArgs false

theorem rqL_setNum {r : RQ} {ev : Value} {n : Int} : (rqL r ev).toArray.setIfInBounds 1 (.int .i64 n) = (rqL { r with num := n } ev).toArray := rfl
set_option maxHeartbeats 16000000 in
theorem tableOnce_law (A : Option Addr) (n c : Nat) (w : World) (hr : ques w A n) (hn : n ≤ c) (hc : c ≤ maxLen) (hsz : sizesAt w) :
    Calls Tryd.prog 3 #[.slice A n c] w fun e w' => e = .returned (.bool true) ∧ keepBut [] w w' := by
  have HW := Lib.hid (works_any w hsz)
  have HSZ := Lib.hid hsz
  have HR := Lib.hid hr
  obtain ⟨Z, hZ⟩ : ∃ Z, rqL rqZero nilV = Z := ⟨_, rfl⟩
  have hz := zv_rq
  rw [hZ] at hz
  obtain ⟨ZA, hZA⟩ : ∃ Z, anL anZero nilV = Z := ⟨_, rfl⟩
  have hza := zv_an
  rw [hZA] at hza
  have HZ := Lib.hid (And.intro hz (show Z.length = 37 by rw [← hZ]; exact rqZ_len))
  have HZA := Lib.hid (And.intro hza (show ZA.length = 38 by rw [← hZA]; exact anZ_len))
  clear hsz hr hz hZ hza hZA
  go_enter Tryd.func3, Tryd.ntmps3
  go_upto_region 3 with (go_at_call 6; refine HW.out.mono ?_; rintro e w1 ⟨rfl, k1⟩; have K1 := Lib.hid k1; clear k1)
  go_upto_region 4 with (go_at_call 7; refine (new_law w [] w1 K1.out HSZ.out (by simp)).mono ?_; rintro e w2 ⟨p, rfl, h2, k2, hp⟩; have H2 := Lib.hid (And.intro h2 k2); clear h2 k2 hp)
  go_upto_region 6 with fail
  have rg := rowAt.new w2 26 #[.int .i64 0, .int .i64 0, .int .i64 0]
  have kg := (keepBut.refl [] w2).alloc (.cells #[.int .i64 0, .int .i64 0, .int .i64 0] 26)
  obtain ⟨g, hg⟩ : ∃ g, w2.heap.size = g := ⟨_, rfl⟩
  rw [hg] at rg
  try rw [hg]
  generalize w2.alloc (.cells #[.int .i64 0, .int .i64 0, .int .i64 0] 26) = w3 at *
  have hw2 := H2.out.1.kept.size
  have HG0 := Lib.hid (show w.heap.size ≤ g by omega)
  have hlt0 := rg.lt
  have hL0 : lawT w [g] w3 p P0 := H2.out.1.also kg (fun y hy => by simp at hy; subst hy; omega)
  have HL0 := Lib.hid hL0
  have RG0 := Lib.hid rg
  have HI0 := Lib.hid (inv_new hL0.ok)
  clear rg kg hg hw2 hlt0 hL0
  go_loopw [5] (fun i wr => ∃ (j : Nat) (P : PT) (ns : List Int), i = .int .i64 j ∧ (j ≤ n ∧ j ≤ 80) ∧ lawT w [g] wr p P ∧ P.inv ns j ∧ rowAt wr g 26 (ns.map (Value.int .i64)).toArray) (fun i _ => n - (intOf i).toNat)
  case atStart => exact ⟨0, P0, [0, 0, 0], rfl, by omega, HL0.out, HI0.out, RG0.out⟩
  case round =>
    obtain ⟨j, P, ns, rfl, ⟨hj, hj80⟩, hl, hi, hrg⟩ := hrel
    have HL := Lib.hid hl
    have HI := Lib.hid hi
    have RG := Lib.hid hrg
    clear hl hi hrg HL0 HI0 RG0
    by_cases hlt : j < n ∧ j < 80
    · obtain ⟨hlt, hlt8⟩ := hlt
      obtain ⟨ga, oa, rfl, hga, hel⟩ := HR.out (by omega)
      obtain ⟨x, hx, hrx⟩ := (hel j hlt).read
      have HX := Lib.hid hx
      have HRX := Lib.hid (quesAt.keep hrx hga HL.out.kept)
      have bj : (j : Int) < (n : Int) := by omega
      have bj8 : (j : Int) < 80 := by omega
      clear hx hrx hel hga
      have hb : ∀ k, 0 ≤ numAt ns k ∧ numAt ns k ≤ 1000000 := fun k => by have := HI.out.nums k; omega
      have HB := Lib.hid hb
      clear hb
      have HMF := Lib.hid (made_facts HI.out (by omega) x)
      have hon := fun h => once_made HI.out (by omega) x h
      have HON := Lib.hid hon
      clear hon
      have HMA := Lib.hid (made_any w [g] wr p g P x ns HL.out HX.out HI.out.len RG.out ⟨by simp, HG0.out⟩ HB.out)
      unfold madePost at HMA
      obtain ⟨r, hr⟩ : ∃ r, madeP P x ns = r := ⟨_, rfl⟩
      rw [hr] at HMF HON HMA
      clear hr
      have HIK : Hid ((Tryd.prog.info? 34).map (·.size) = some (askL x).length) := Lib.hid (by kernel_rfl)
      obtain ⟨XK, hXK⟩ : ∃ X, askL x = X := ⟨_, rfl⟩
      rw [hXK] at HRX HIK HMA
      clear hXK
      go_upto_region 9 with (first
        | (refine wpList_load_mid rfl 34 (.tmp 36) rfl ga (oa + j * 5) rfl XK _ HRX.out Tryd.underlying34 rfl HIK.out ?_)
        | (go_at_call 8; refine HMA.out.mono ?_; rintro e w4 ⟨v, G1, rfl, q4⟩; have Q4 := Lib.hid q4; clear q4; obtain ⟨X, hX⟩ : ∃ X, rqL r v = X := ⟨_, rfl⟩; have HXR := Lib.hid (And.intro (show X.length = 37 by rw [← hX]; exact rqL_len HMF.out.2.2.2.1) (And.intro (show ∀ u ∈ X, u.oneCell' = true by rw [← hX]; exact rqL_one _ Q4.out.1.2.one) hX)); rw [hX]; clear hX)
        | (refine wpList_alloc_to _ _ rfl 31 rfl _ HZ.out.1 (rfl : w4.alloc (.cells Z.toArray 31) = _) ?_; have RZ := Lib.hid (rowAt.new w4 31 Z.toArray); have KZ := Lib.hid ((keepBut.refl [] w4).alloc (.cells Z.toArray 31)); obtain ⟨br, hbr⟩ : ∃ d, w4.heap.size = d := ⟨_, rfl⟩; have HBR := Lib.hid hbr; rw [hbr] at RZ ⊢; generalize w4.alloc (.cells Z.toArray 31) = w5 at *; clear hbr)
        | (refine wpList_store_mid rfl 31 (.tmp 6) (.tmp 38) rfl br 0 X.toArray rfl rfl (RZ.out.there (by simp only [List.size_toArray]; rw [HXR.out.1, HZ.out.2]; omega)) (by rw [List.size_toArray, HXR.out.1]; exact info_rq) (all_oneCell_toArray HXR.out.2.1) ?_))
      have r6 := RZ.out.setL (vs := X) (o := 0)
      rw [putL_all (by simp only [List.size_toArray]; rw [HXR.out.1, HZ.out.2])] at r6
      have k6 := (keepBut.refl [br] w5).setL (vs := X) (g := br) (o := 0) (.inl (by simp))
      try simp only [List.toList_toArray]
      generalize w5.setCells br 0 X = w6 at *
      have k46 : keepBut [] w4 w6 := KZ.out.then k6 (fun y hy => by simp at hy; subst hy; right; have := HBR.out; omega)
      have hbrl := r6.lt
      have s46 := k46.size
      have hs4 := Q4.out.2.2.2.2.size
      have RB6 := Lib.hid r6
      have RG6 := Lib.hid (k46.row Q4.out.2.2.1 (by simp))
      have V6 := Lib.hid (Q4.out.1.2.keep k46 (by simp))
      have HL6 : Hid (lawT w ([g] ++ (br :: G1)) w6 p P) := Lib.hid (HL.out.pokeAlso (Q4.out.2.2.2.2.then k46 (by simp)) (fun y hy => by simp at hy; subst hy; exact ⟨by simp, HG0.out, _, _, RG.out, by decide⟩) (fun y hy => by
        rcases List.mem_cons.1 hy with rfl | hy
        · have := HBR.out; exact ⟨by omega, hbrl⟩
        · have h1 := Q4.out.2.1 y hy; exact ⟨by omega, by omega⟩))
      clear r6 k6 k46 hbrl s46 hs4
      obtain ⟨NL, hNL⟩ : ∃ NL, nameL r.name = NL := ⟨_, rfl⟩
      have HNL := Lib.hid (And.intro (show NL.length = 32 by rw [← hNL, nameL_len, HMF.out.2.2.2.1]) (show ∀ j v, NL[j]? = some v → X.toArray[4 + j]? = some v by rw [← hNL, ← HXR.out.2.2]; exact rqL_name r v))
      have HIN : Hid ((Tryd.prog.info? 28).map (·.size) = some NL.length) := Lib.hid (by rw [HNL.out.1]; exact infoName)
      have hget6 := HL6.out.get (t := r.name) HMF.out.2.2.2.1
      rw [hNL] at hget6
      have HGE6 := Lib.hid hget6
      clear hget6
      go_upto_region 10 with (first
        | (refine wpList_load_mid rfl 28 (.tmp 41) rfl br 4 rfl NL _ (RB6.out.range HNL.out.2) Tryd.underlying28 rfl HIN.out ?_)
        | (go_at_call 9; refine HGE6.out.mono ?_; rintro e w7 ⟨v7, G7, rfl, n7⟩; have N7 := Lib.hid n7; clear n7))
      have HL7 : Hid (lawT w (([g] ++ (br :: G1)) ++ G7) w7 p P) := Lib.hid (HL6.out.also N7.out.2.2 N7.out.2.1)
      have RB7 := Lib.hid (N7.out.2.2.row RB6.out (by simp))
      have RG7 := Lib.hid (N7.out.2.2.row RG6.out (by simp))
      have V7 := Lib.hid (V6.out.keep N7.out.2.2 (by simp))
      clear HGE6
      obtain ⟨⟨P1, a, e1⟩, hy⟩ : ∃ y, P.done r = y := ⟨_, rfl⟩
      have HDO := Lib.hid (HL7.out.done2 (F := G1) ⟨HMF.out.2.2.2.1, V7.out⟩ HXR.out.2.2 hy)
      rw [hy] at HON
      clear hy
      go_upto_region 11 with (go_at_call 10; refine (HL7.out.epoch rfl).mono ?_; rintro e w0 ⟨rfl, rfl⟩)
      go_upto_region 12 with (first
        | (refine wpList_load_mid rfl 31 (.tmp 6) rfl br 0 rfl X _ RB7.out.rangeAll Tryd.underlying31 rfl (by rw [HXR.out.1]; exact info_rq) ?_)
        | (go_at_call 11; refine HDO.out.mono ?_; rintro e w8 ⟨va, Ga, rfl, n_⟩; have N8 := Lib.hid n_; clear n_; obtain ⟨Y, hY⟩ : ∃ Y, anL a va = Y := ⟨_, rfl⟩; have HYA := Lib.hid (And.intro (show Y.length = 38 by rw [← hY]; exact anL_len N8.out.2.2.2.2) (And.intro (show ∀ u ∈ Y, u.oneCell' = true by rw [← hY]; exact anL_one _ N8.out.1.one) hY)); rw [hY]; clear hY)
        | (refine wpList_alloc_to _ _ rfl 40 rfl _ HZA.out.1 (rfl : w8.alloc (.cells ZA.toArray 40) = _) ?_; have RZba := Lib.hid (rowAt.new w8 40 ZA.toArray); have KZba := Lib.hid ((keepBut.refl [] w8).alloc (.cells ZA.toArray 40)); obtain ⟨ba, hd⟩ : ∃ d, w8.heap.size = d := ⟨_, rfl⟩; have HDba := Lib.hid hd; rw [hd] at RZba ⊢; generalize w8.alloc (.cells ZA.toArray 40) = w9 at *; clear hd)
        | (refine wpList_store_mid rfl 40 (.tmp 10) (.tmp 52) rfl ba 0 Y.toArray rfl rfl (RZba.out.there (by simp only [List.size_toArray]; rw [HYA.out.1, HZA.out.2]; omega)) (by rw [List.size_toArray, HYA.out.1]; exact info_an) (all_oneCell_toArray (HYA.out.2.1)) ?_))
      have r_ := RZba.out.setL (vs := Y) (o := 0)
      rw [putL_all (by simp only [List.size_toArray]; rw [HYA.out.1, HZA.out.2])] at r_
      have k_ := (keepBut.refl [ba] w9).setL (vs := Y) (g := ba) (o := 0) (.inl (by simp))
      try simp only [List.toList_toArray]
      generalize w9.setCells ba 0 Y = wA at *
      have k8A : keepBut [] w8 wA := KZba.out.then k_ (fun y hy => by simp at hy; subst hy; right; have := HDba.out; omega)
      have Rba := Lib.hid r_
      clear k_ r_
      have RB8 := Lib.hid (k8A.row (N8.out.2.2.2.1.row RB7.out (by simp)) (by simp))
      have RG8 := Lib.hid (k8A.row (N8.out.2.2.2.1.row RG7.out (by simp)) (by simp))
      have VR := Lib.hid ((N8.out.2.2.2.1.bytes V7.out (by intro y hy; simp [hy])).keep k8A (by simp))
      have VW := Lib.hid ((N8.out.2.2.2.1.bytes N7.out.1 (by intro y hy; simp [hy])).keep k8A (by simp))
      have VA := Lib.hid (N8.out.1.keep k8A (by simp))
      have HLA : Hid (lawT w (((([g] ++ (br :: G1)) ++ G7) ++ Ga) ++ [ba]) wA p P1) := Lib.hid (N8.out.2.2.1.also k8A (fun y hy => by simp at hy; subst hy; have := HDba.out; have := Rba.out.lt; omega))
      obtain ⟨hon, hinv⟩ := HON.out HLA.out.ok
      obtain rfl : e1 = 0 := hon.e
      have HO := Lib.hid hon
      have HINV := Lib.hid hinv
      clear hon hinv HON k8A HDO
      have hYc : ∀ i u, (anL a va).toArray[i]? = some u → wA.cell? ⟨ba, i, none⟩ = some u := fun i u hu => by rw [HYA.out.2.2] at hu; exact (Rba.out.cell i).trans hu
      have hXc : ∀ i u, (rqL r v).toArray[i]? = some u → wA.cell? ⟨br, i, none⟩ = some u := fun i u hu => by rw [HXR.out.2.2] at hu; exact (RB8.out.cell i).trans hu
      have hcl := HO.out.client
      have hnu := HO.out.num
      dsimp only at hcl hnu
      have a0 : wA.cell? ⟨ba, 0, none⟩ = some (.int .i64 r.client) := hYc 0 _ (by rw [← hcl]; rfl)
      have a1 : wA.cell? ⟨ba, 1, none⟩ = some (.int .i64 r.num) := hYc 1 _ (by rw [← hnu]; rfl)
      have b0 : wA.cell? ⟨br, 0, none⟩ = some (.int .i64 r.client) := hXc 0 _ rfl
      have b1 : wA.cell? ⟨br, 1, none⟩ = some (.int .i64 r.num) := hXc 1 _ rfl
      have HYC := Lib.hid hYc
      have HXC := Lib.hid hXc
      clear hYc hXc hcl hnu
      go_upto_region 14 with fail
      clear a0 a1 b0 b1
      have hgetA := HLA.out.get (t := r.name) HMF.out.2.2.2.1
      rw [hNL] at hgetA
      have HGEA := Lib.hid hgetA
      clear hgetA
      go_upto_region 15 with (first
        | (refine wpList_load_mid rfl 28 (.tmp 72) rfl br 4 rfl NL _ (RB8.out.range HNL.out.2) Tryd.underlying28 rfl HIN.out ?_)
        | (go_at_call 9; refine HGEA.out.mono ?_; rintro e wB ⟨vn, Gn, rfl, nB⟩; have NB := Lib.hid nB; clear nB))
      have KB := Lib.hid NB.out.2.2
      have HLB : Hid (lawT w ((((([g] ++ (br :: G1)) ++ G7) ++ Ga) ++ [ba]) ++ Gn) wB p P1) := Lib.hid (HLA.out.also NB.out.2.2 NB.out.2.1)
      have VRB := Lib.hid (VR.out.keep KB.out (by simp))
      have VWB := Lib.hid (VW.out.keep KB.out (by simp))
      have hXb : ∀ i u, (rqL r v).toArray[i]? = some u → wB.cell? ⟨br, i, none⟩ = some u := fun i u hu => by rw [HXR.out.2.2] at hu; exact ((KB.out.row RB8.out (by simp)).cell i).trans hu
      have hYb : ∀ i u, (anL a va).toArray[i]? = some u → wB.cell? ⟨ba, i, none⟩ = some u := fun i u hu => by rw [HYA.out.2.2] at hu; exact ((KB.out.row Rba.out (by simp)).cell i).trans hu
      have hep := HO.out.epoch
      dsimp only at hep
      have hep0 := HL7.out.fit.ep
      have hwe : IntKind.i64.wrap (P.epoch + 1) = P.epoch + 1 := by rw [IntKind.wrap_i64]; omega
      have hq1 : ¬ P1.epoch < P.epoch := by omega
      have hq2 : ¬ P.epoch + 1 < P1.epoch := by omega
      have hvv := HI.out.ver r.name
      have hwv : IntKind.i64.wrap (P.ver r.name + 1) = P.ver r.name + 1 := by rw [IntKind.wrap_i64]; omega
      have HXB := Lib.hid hXb
      have HYB := Lib.hid hYb
      clear hXb hYb
      have hobj := HO.out.objs
      dsimp only at hobj
      clear hNL
      have HEPA : Hid (P.epoch ≤ P1.epoch) := Lib.hid hep.1
      clear hep hep0 hvv
      skip
      have H15 : ∀ (ver ver1 : Int), (P.ver r.name = ver) → (P1.ver r.name = ver1) → True := fun _ _ _ _ => trivial
      clear H15
      obtain ⟨vv, hvv0⟩ : ∃ k, P.ver r.name = k := ⟨_, rfl⟩
      obtain ⟨vw, hvw0⟩ : ∃ k, P1.ver r.name = k := ⟨_, rfl⟩
      rw [hvv0] at hwv
      rw [hvv0, hvw0] at hobj
      rw [hvw0]
      try rw [hvv0]
      clear hvv0 hvw0
      rcases hobj with ⟨rfl, henv⟩ | ⟨rfl, hkd, hcd, hvs, henv⟩
      focus (
        have hee : (P1.env r.name == P.env r.name) = true := by rw [henv]; simp
        have HEE := Lib.hid hee
        clear hee henv
        go_upto_region 17 with (first
          | (go_at_call 12; refine (eqb_any NB.out.1 VWB.out).mono ?_; rintro e w0 ⟨rfl, rfl⟩; rw [HEE.out])
          | (go_at_call 10; refine (HLB.out.epoch rfl).mono ?_; rintro e w0 ⟨rfl, rfl⟩)))
      rotate_left
      focus (
        have d2 : wB.cell? ⟨br, 2, none⟩ = some (.int .i64 2) := by have q := HXB.out 2 (.int .i64 r.kind) rfl; rw [hkd] at q; exact q
        have d2a : wB.cell? ⟨ba, 2, none⟩ = some (.int .i64 0) := by have q := HYB.out 2 (.int .i64 a.code) rfl; rw [hcd] at q; exact q
        have d3 : wB.cell? ⟨ba, 3, none⟩ = some (.int .i64 (vv + 1)) := by have q := HYB.out 3 (.int .i64 a.version) rfl; rw [hvs] at q; exact q
        have hee : (P1.env r.name == r.env) = true := by rw [henv]; simp
        have HEE := Lib.hid hee
        clear hee henv hkd hcd hvs
        have d36 : wB.cell? ⟨br, 36, none⟩ = some v := HXB.out 36 _ (rqL_env HMF.out.2.2.2.1)
        have hne1 : ¬ vv + 1 = vv := by omega
        go_upto_region 17 with (first
          | (go_at_call 12; refine (eqb_any NB.out.1 VRB.out).mono ?_; rintro e w0 ⟨rfl, rfl⟩; rw [HEE.out])
          | (go_at_call 10; refine (HLB.out.epoch rfl).mono ?_; rintro e w0 ⟨rfl, rfl⟩))
        clear d2 d2a d3 d36 hne1)
      all_goals (
        clear hq1 hq2 hwe hwv
        have R_br_B := Lib.hid (KB.out.row RB8.out (by simp))
        have R_ba_B := Lib.hid (KB.out.row Rba.out (by simp))
        have R_g_B := Lib.hid (KB.out.row RG8.out (by simp))
        have V_v_B := Lib.hid (VR.out.keep KB.out (by simp))
        have V_va_B := Lib.hid (VA.out.keep KB.out (by simp))
        have HBY := Lib.hid HLB.out.bytes
        go_upto_region 18 with (first
          | (go_at_call 13; refine HBY.out.mono ?_; rintro e wC ⟨vB, GB, rfl, nC⟩; have NC := Lib.hid nC; clear nC))
        have KC := Lib.hid NC.out.2.2
        have R_br_C := Lib.hid (KC.out.row R_br_B.out (by simp))
        have R_ba_C := Lib.hid (KC.out.row R_ba_B.out (by simp))
        have R_g_C := Lib.hid (KC.out.row R_g_B.out (by simp))
        have V_v_C := Lib.hid (V_v_B.out.keep KC.out (by simp))
        have V_va_C := Lib.hid (V_va_B.out.keep KC.out (by simp))
        have V_bt_C := Lib.hid NC.out.1
        have HLC : Hid (lawT w (((((([g] ++ (br :: G1)) ++ G7) ++ Ga) ++ [ba]) ++ Gn) ++ GB) wC p P1) := Lib.hid (HLB.out.also NC.out.2.2 NC.out.2.1)
        have HDO2 := Lib.hid (HLC.out.done2 (F := G1) ⟨HMF.out.2.2.2.1, V_v_C.out⟩ HXR.out.2.2 HO.out.again)
        go_upto_region 19 with (first
          | (refine wpList_load_mid rfl 31 (.tmp 6) rfl br 0 rfl X _ R_br_C.out.rangeAll Tryd.underlying31 rfl (by rw [HXR.out.1]; exact info_rq) ?_)
          | (go_at_call 11; refine HDO2.out.mono ?_; rintro e wD ⟨vb, Gb, rfl, n_⟩; have ND := Lib.hid n_; clear n_; obtain ⟨Y2, hY⟩ : ∃ Y, anL a vb = Y := ⟨_, rfl⟩; have HY2 := Lib.hid (And.intro (show Y2.length = 38 by rw [← hY]; exact anL_len ND.out.2.2.2.2) (And.intro (show ∀ u ∈ Y2, u.oneCell' = true by rw [← hY]; exact anL_one _ ND.out.1.one) hY)); rw [hY]; clear hY)
          | (refine wpList_alloc_to _ _ rfl 40 rfl _ HZA.out.1 (rfl : wD.alloc (.cells ZA.toArray 40) = _) ?_; have RZbb := Lib.hid (rowAt.new wD 40 ZA.toArray); have KZbb := Lib.hid ((keepBut.refl [] wD).alloc (.cells ZA.toArray 40)); obtain ⟨bb, hd⟩ : ∃ d, wD.heap.size = d := ⟨_, rfl⟩; have HDbb := Lib.hid hd; rw [hd] at RZbb ⊢; generalize wD.alloc (.cells ZA.toArray 40) = wE at *; clear hd)
          | (refine wpList_store_mid rfl 40 (.tmp 15) (.tmp 139) rfl bb 0 Y2.toArray rfl rfl (RZbb.out.there (by simp only [List.size_toArray]; rw [HY2.out.1, HZA.out.2]; omega)) (by rw [List.size_toArray, HY2.out.1]; exact info_an) (all_oneCell_toArray (HY2.out.2.1)) ?_))
        have r_ := RZbb.out.setL (vs := Y2) (o := 0)
        rw [putL_all (by simp only [List.size_toArray]; rw [HY2.out.1, HZA.out.2])] at r_
        have k_ := (keepBut.refl [bb] wE).setL (vs := Y2) (g := bb) (o := 0) (.inl (by simp))
        try simp only [List.toList_toArray]
        generalize wE.setCells bb 0 Y2 = wE2 at *
        have kDE : keepBut [] wD wE2 := KZbb.out.then k_ (fun y hy => by simp at hy; subst hy; right; have := HDbb.out; omega)
        have Rbb := Lib.hid r_
        clear k_ r_
        have KDE := Lib.hid kDE
        clear kDE
        have R_br_D := Lib.hid (ND.out.2.2.2.1.row R_br_C.out (by simp))
        have R_ba_D := Lib.hid (ND.out.2.2.2.1.row R_ba_C.out (by simp))
        have R_g_D := Lib.hid (ND.out.2.2.2.1.row R_g_C.out (by simp))
        have V_v_D := Lib.hid (ND.out.2.2.2.1.bytes V_v_C.out (by intro y hy; simp [hy]))
        have V_va_D := Lib.hid (ND.out.2.2.2.1.bytes V_va_C.out (by intro y hy; simp [hy]))
        have V_bt_D := Lib.hid (ND.out.2.2.2.1.bytes V_bt_C.out (by intro y hy; simp [hy]))
        have V_vb_D := Lib.hid ND.out.1
        have R_br_E := Lib.hid (KDE.out.row R_br_D.out (by simp))
        have R_ba_E := Lib.hid (KDE.out.row R_ba_D.out (by simp))
        have R_g_E := Lib.hid (KDE.out.row R_g_D.out (by simp))
        have V_v_E := Lib.hid (V_v_D.out.keep KDE.out (by simp))
        have V_va_E := Lib.hid (V_va_D.out.keep KDE.out (by simp))
        have V_bt_E := Lib.hid (V_bt_D.out.keep KDE.out (by simp))
        have V_vb_E := Lib.hid (V_vb_D.out.keep KDE.out (by simp))
        have HLE : Hid (lawT w (((((((([g] ++ (br :: G1)) ++ G7) ++ Ga) ++ [ba]) ++ Gn) ++ GB) ++ Gb) ++ [bb]) wE2 p P1) := Lib.hid (ND.out.2.2.1.also KDE.out (fun y hy => by simp at hy; subst hy; have := HDbb.out; have := Rbb.out.lt; omega))
        go_upto_region 20 with (first
          | (refine wpList_load_mid rfl 31 (.tmp 6) rfl br 0 rfl X _ R_br_E.out.rangeAll Tryd.underlying31 rfl (by rw [HXR.out.1]; exact info_rq) ?_)
          | (refine wpList_alloc_to _ _ rfl 31 rfl _ HZ.out.1 (rfl : wE2.alloc (.cells Z.toArray 31) = _) ?_; have RZbo := Lib.hid (rowAt.new wE2 31 Z.toArray); have KZbo := Lib.hid ((keepBut.refl [] wE2).alloc (.cells Z.toArray 31)); obtain ⟨bo, hd⟩ : ∃ d, wE2.heap.size = d := ⟨_, rfl⟩; have HDbo := Lib.hid hd; rw [hd] at RZbo ⊢; generalize wE2.alloc (.cells Z.toArray 31) = wF at *; clear hd)
          | (refine wpList_store_mid rfl 31 (.tmp 17) (.tmp 141) rfl bo 0 X.toArray rfl rfl (RZbo.out.there (by simp only [List.size_toArray]; rw [HXR.out.1, HZ.out.2]; omega)) (by rw [List.size_toArray, HXR.out.1]; exact info_rq) (all_oneCell_toArray (HXR.out.2.1)) ?_))
        have r_ := RZbo.out.setL (vs := X) (o := 0)
        rw [putL_all (by simp only [List.size_toArray]; rw [HXR.out.1, HZ.out.2])] at r_
        have k_ := (keepBut.refl [bo] wF).setL (vs := X) (g := bo) (o := 0) (.inl (by simp))
        try simp only [List.toList_toArray]
        generalize wF.setCells bo 0 X = wG at *
        have kEG : keepBut [] wE2 wG := KZbo.out.then k_ (fun y hy => by simp at hy; subst hy; right; have := HDbo.out; omega)
        have Rbo := Lib.hid r_
        clear k_ r_
        have hnum : IntKind.i64.wrap (r.num - 1) = r.num - 1 := by have := (tok_facts HMF.out.1).2.1; rw [IntKind.wrap_i64]; omega
        have y1 : wG.cell? ⟨br, 1, none⟩ = some (.int .i64 r.num) := ((kEG.row R_br_E.out (by simp)).cell 1).trans (by rw [← HXR.out.2.2]; rfl)
        have z1 : wG.cell? ⟨bo, 1, none⟩ = some (.int .i64 r.num) := (Rbo.out.cell 1).trans (by rw [← HXR.out.2.2]; rfl)
        have f1 := Rbo.out.free 1
        go_upto_region 21 with fail
        have r_ := Rbo.out.set 1 (.int .i64 (r.num - 1))
        rw [← HXR.out.2.2, rqL_setNum] at r_
        have k_ := kset wG bo 1 (.int .i64 (r.num - 1))
        generalize wG.setCell ⟨bo, 1, none⟩ (.int .i64 (r.num - 1)) = wH at *
        have kEH : keepBut [] wE2 wH := kEG.then k_ (fun y hy => by simp at hy; subst hy; right; have := HDbo.out; omega)
        obtain ⟨XO, hXO⟩ : ∃ X, rqL { r with num := r.num - 1 } v = X := ⟨_, rfl⟩
        rw [hXO] at r_
        have HXO := Lib.hid (And.intro (show XO.length = 37 by rw [← hXO]; exact rqL_len HMF.out.2.2.2.1) hXO)
        have Rbo2 := Lib.hid r_
        have KEH := Lib.hid kEH
        clear hXO r_ k_ kEG kEH y1 z1 f1 hnum
        have R_br_H := Lib.hid (KEH.out.row R_br_E.out (by simp))
        have R_ba_H := Lib.hid (KEH.out.row R_ba_E.out (by simp))
        have R_g_H := Lib.hid (KEH.out.row R_g_E.out (by simp))
        have R_bb_H := Lib.hid (KEH.out.row Rbb.out (by simp))
        have V_v_H := Lib.hid (V_v_E.out.keep KEH.out (by simp))
        have V_va_H := Lib.hid (V_va_E.out.keep KEH.out (by simp))
        have V_bt_H := Lib.hid (V_bt_E.out.keep KEH.out (by simp))
        have V_vb_H := Lib.hid (V_vb_E.out.keep KEH.out (by simp))
        have HLH : Hid (lawT w ((((((((([g] ++ (br :: G1)) ++ G7) ++ Ga) ++ [ba]) ++ Gn) ++ GB) ++ Gb) ++ [bb]) ++ [bo]) wH p P1) := Lib.hid (HLE.out.also KEH.out (fun y hy => by simp at hy; subst hy; have := HDbo.out; have := Rbo2.out.lt; omega))
        obtain ⟨a3, e3, hd3, hp3⟩ : ∃ a3 e3, P1.done { r with num := r.num - 1 } = (P1, a3, e3) ∧ ((0 < r.num - 1 ∧ e3 = 0 ∧ a3.code = 3) ∨ (r.num - 1 = 0 ∧ e3 = 2)) := by
          by_cases hpos : 0 < r.num - 1
          · obtain ⟨a3, h1, h2⟩ := HO.out.old hpos
            exact ⟨a3, 0, h1, .inl ⟨hpos, rfl, h2⟩⟩
          · exact ⟨anZero, 2, HO.out.none hpos, .inr ⟨by have := (tok_facts HMF.out.1).2.1; omega, rfl⟩⟩
        have HP3 := Lib.hid hp3
        have HDO3 := Lib.hid (HLH.out.done2 (F := G1) (r := { r with num := r.num - 1 }) ⟨HMF.out.2.2.2.1, V_v_H.out⟩ HXO.out.2 hd3)
        clear hp3 hd3
        go_upto_region 22 with (first
          | (refine wpList_load_mid rfl 31 (.tmp 17) rfl bo 0 rfl XO _ Rbo2.out.rangeAll Tryd.underlying31 rfl (by rw [HXO.out.1]; exact info_rq) ?_)
          | (go_at_call 11; refine HDO3.out.mono ?_; rintro e wI ⟨vc, Gc, rfl, n_⟩; have NI := Lib.hid n_; clear n_; obtain ⟨Y3, hY⟩ : ∃ Y, anL a3 vc = Y := ⟨_, rfl⟩; have HY3 := Lib.hid (And.intro (show Y3.length = 38 by rw [← hY]; exact anL_len NI.out.2.2.2.2) (And.intro (show ∀ u ∈ Y3, u.oneCell' = true by rw [← hY]; exact anL_one _ NI.out.1.one) hY)); rw [hY]; clear hY)
          | (refine wpList_alloc_to _ _ rfl 40 rfl _ HZA.out.1 (rfl : wI.alloc (.cells ZA.toArray 40) = _) ?_; have RZbc := Lib.hid (rowAt.new wI 40 ZA.toArray); have KZbc := Lib.hid ((keepBut.refl [] wI).alloc (.cells ZA.toArray 40)); obtain ⟨bc, hd⟩ : ∃ d, wI.heap.size = d := ⟨_, rfl⟩; have HDbc := Lib.hid hd; rw [hd] at RZbc ⊢; generalize wI.alloc (.cells ZA.toArray 40) = wJ at *; clear hd)
          | (refine wpList_store_mid rfl 40 (.tmp 18) (.tmp 150) rfl bc 0 Y3.toArray rfl rfl (RZbc.out.there (by simp only [List.size_toArray]; rw [HY3.out.1, HZA.out.2]; omega)) (by rw [List.size_toArray, HY3.out.1]; exact info_an) (all_oneCell_toArray (HY3.out.2.1)) ?_))
        have r_ := RZbc.out.setL (vs := Y3) (o := 0)
        rw [putL_all (by simp only [List.size_toArray]; rw [HY3.out.1, HZA.out.2])] at r_
        have k_ := (keepBut.refl [bc] wJ).setL (vs := Y3) (g := bc) (o := 0) (.inl (by simp))
        try simp only [List.toList_toArray]
        generalize wJ.setCells bc 0 Y3 = wJ2 at *
        have kIJ : keepBut [] wI wJ2 := KZbc.out.then k_ (fun y hy => by simp at hy; subst hy; right; have := HDbc.out; omega)
        have Rbc := Lib.hid r_
        clear k_ r_
        have KIJ := Lib.hid kIJ
        clear kIJ
        have R_br_I := Lib.hid (NI.out.2.2.2.1.row R_br_H.out (by simp))
        have R_ba_I := Lib.hid (NI.out.2.2.2.1.row R_ba_H.out (by simp))
        have R_g_I := Lib.hid (NI.out.2.2.2.1.row R_g_H.out (by simp))
        have R_bb_I := Lib.hid (NI.out.2.2.2.1.row R_bb_H.out (by simp))
        have R_bo_I := Lib.hid (NI.out.2.2.2.1.row Rbo2.out (by simp))
        have V_v_I := Lib.hid (NI.out.2.2.2.1.bytes V_v_H.out (by intro y hy; simp [hy]))
        have V_va_I := Lib.hid (NI.out.2.2.2.1.bytes V_va_H.out (by intro y hy; simp [hy]))
        have V_bt_I := Lib.hid (NI.out.2.2.2.1.bytes V_bt_H.out (by intro y hy; simp [hy]))
        have V_vb_I := Lib.hid (NI.out.2.2.2.1.bytes V_vb_H.out (by intro y hy; simp [hy]))
        have R_br_J := Lib.hid (KIJ.out.row R_br_I.out (by simp))
        have R_ba_J := Lib.hid (KIJ.out.row R_ba_I.out (by simp))
        have R_g_J := Lib.hid (KIJ.out.row R_g_I.out (by simp))
        have R_bb_J := Lib.hid (KIJ.out.row R_bb_I.out (by simp))
        have R_bo_J := Lib.hid (KIJ.out.row R_bo_I.out (by simp))
        have V_v_J := Lib.hid (V_v_I.out.keep KIJ.out (by simp))
        have V_va_J := Lib.hid (V_va_I.out.keep KIJ.out (by simp))
        have V_bt_J := Lib.hid (V_bt_I.out.keep KIJ.out (by simp))
        have V_vb_J := Lib.hid (V_vb_I.out.keep KIJ.out (by simp))
        have HLJ : Hid (lawT w ((((((((((([g] ++ (br :: G1)) ++ G7) ++ Ga) ++ [ba]) ++ Gn) ++ GB) ++ Gb) ++ [bb]) ++ [bo]) ++ Gc) ++ [bc]) wJ2 p P1) := Lib.hid (NI.out.2.2.1.also KIJ.out (fun y hy => by simp at hy; subst hy; have := HDbc.out; have := Rbc.out.lt; omega))
        obtain ⟨NA_, hNA⟩ : ∃ X, nameL a.name = X := ⟨_, rfl⟩
        have HNA := Lib.hid (And.intro (show NA_.length = 32 by rw [← hNA, nameL_len]; exact N8.out.2.2.2.2) hNA)
        have HINA : Hid ((Tryd.prog.info? 28).map (·.size) = some NA_.length) := Lib.hid (by rw [HNA.out.1]; exact infoName)
        have HNEQ : Hid ((binOp .neq 28 (.agg NA_.toArray) (.agg NA_.toArray)).run Tryd.prog wJ2 = .ok (.bool false) wJ2) := Lib.hid (by rw [← HNA.out.2]; exact name_neq a.name N8.out.2.2.2.2 wJ2)
        have hr1 : wJ2.rangeAt ba 5 NA_ := R_ba_J.out.range (fun i u hu => by rw [← HYA.out.2.2]; exact anL_name a va i u (by rw [hNA]; exact hu))
        have hr2 : wJ2.rangeAt bb 5 NA_ := R_bb_J.out.range (fun i u hu => by rw [← HY2.out.2.2]; exact anL_name a vb i u (by rw [hNA]; exact hu))
        have HR1 := Lib.hid hr1
        have HR2 := Lib.hid hr2
        clear hr1 hr2 hNA
        have pa1 : wJ2.cell? ⟨ba, 2, none⟩ = some (.int .i64 a.code) := (R_ba_J.out.cell 2).trans (by rw [← HYA.out.2.2]; rfl)
        have pb1 : wJ2.cell? ⟨bb, 2, none⟩ = some (.int .i64 a.code) := (R_bb_J.out.cell 2).trans (by rw [← HY2.out.2.2]; rfl)
        have pa2 : wJ2.cell? ⟨ba, 3, none⟩ = some (.int .i64 a.version) := (R_ba_J.out.cell 3).trans (by rw [← HYA.out.2.2]; rfl)
        have pb2 : wJ2.cell? ⟨bb, 3, none⟩ = some (.int .i64 a.version) := (R_bb_J.out.cell 3).trans (by rw [← HY2.out.2.2]; rfl)
        have pa3 : wJ2.cell? ⟨ba, 4, none⟩ = some (.int .i64 a.epoch) := (R_ba_J.out.cell 4).trans (by rw [← HYA.out.2.2]; rfl)
        have pb3 : wJ2.cell? ⟨bb, 4, none⟩ = some (.int .i64 a.epoch) := (R_bb_J.out.cell 4).trans (by rw [← HY2.out.2.2]; rfl)
        have pa4 : wJ2.cell? ⟨ba, 37, none⟩ = some va := (R_ba_J.out.cell 37).trans (by rw [← HYA.out.2.2]; exact anL_env N8.out.2.2.2.2)
        have pb4 : wJ2.cell? ⟨bb, 37, none⟩ = some vb := (R_bb_J.out.cell 37).trans (by rw [← HY2.out.2.2]; exact anL_env N8.out.2.2.2.2)
        have po : wJ2.cell? ⟨bo, 1, none⟩ = some (.int .i64 (r.num - 1)) := (R_bo_J.out.cell 1).trans (by rw [← HXO.out.2]; rfl)
        have pc : wJ2.cell? ⟨bc, 2, none⟩ = some (.int .i64 a3.code) := (Rbc.out.cell 2).trans (by rw [← HY3.out.2.2]; rfl)
        have HB2 := Lib.hid HLJ.out.bytes
        have hee2 : (a.env == a.env) = true := by simp
        have hbb2 : (bytesT P1 == bytesT P1) = true := by simp
        have HEE2 := Lib.hid (And.intro hee2 hbb2)
        clear hee2 hbb2
        simp only [List.append_eq, List.cons_append, List.nil_append]
        have h80 := bj8
        rcases HP3.out with ⟨hpos, rfl, hc3⟩ | ⟨hzero, rfl⟩
        · rw [hc3] at pc
          have hz : ¬ r.num - 1 = 0 := by omega
          go_wp2_with (first
            | (refine wpList_load_mid_g 28 (.tmp 176) rfl bb 5 rfl NA_ _ HR2.out Tryd.underlying28 rfl HINA.out rfl ?_)
            | (refine wpList_load_mid_g 28 (.tmp 178) rfl ba 5 rfl NA_ _ HR1.out Tryd.underlying28 rfl HINA.out rfl ?_)
            | (refine wpList_bin_agg_g _ .neq 28 28 (.tmp 177) (.tmp 179) rfl guardName NA_.toArray NA_.toArray rfl rfl _ HNEQ.out ?_ ?_; · rfl)
            | (go_at_call 12; refine (eqb_any V_vb_J.out V_va_J.out).mono ?_; rintro e w0 ⟨rfl, rfl⟩; rw [HEE2.out.1])
            | (go_at_call 13; refine HB2.out.mono ?_; rintro e wK ⟨vK, GK, rfl, nK⟩; have NK := Lib.hid nK; clear nK)
            | (go_at_call 12; refine (eqb_any NK.out.1 (V_bt_J.out.keep NK.out.2.2 (by simp))).mono ?_; rintro e w0 ⟨rfl, rfl⟩; rw [HEE2.out.2]))
          go_roundw
          case rel => exact ⟨j + 1, P1, numsP x ns, by go_num, by omega, (HLJ.out.over NK.out.2.2).less (fun y hy => by simp at hy; subst hy; simp), HINV.out, NK.out.2.2.row R_g_J.out (by simp)⟩
          case measure => simp [intOf]; omega
        · rw [hzero] at po
          go_wp2_with (first
            | (refine wpList_load_mid_g 28 (.tmp 176) rfl bb 5 rfl NA_ _ HR2.out Tryd.underlying28 rfl HINA.out rfl ?_)
            | (refine wpList_load_mid_g 28 (.tmp 178) rfl ba 5 rfl NA_ _ HR1.out Tryd.underlying28 rfl HINA.out rfl ?_)
            | (refine wpList_bin_agg_g _ .neq 28 28 (.tmp 177) (.tmp 179) rfl guardName NA_.toArray NA_.toArray rfl rfl _ HNEQ.out ?_ ?_; · rfl)
            | (go_at_call 12; refine (eqb_any V_vb_J.out V_va_J.out).mono ?_; rintro e w0 ⟨rfl, rfl⟩; rw [HEE2.out.1])
            | (go_at_call 13; refine HB2.out.mono ?_; rintro e wK ⟨vK, GK, rfl, nK⟩; have NK := Lib.hid nK; clear nK)
            | (go_at_call 12; refine (eqb_any NK.out.1 (V_bt_J.out.keep NK.out.2.2 (by simp))).mono ?_; rintro e w0 ⟨rfl, rfl⟩; rw [HEE2.out.2]))
          go_roundw
          case rel => exact ⟨j + 1, P1, numsP x ns, by go_num, by omega, (HLJ.out.over NK.out.2.2).less (fun y hy => by simp at hy; subst hy; simp), HINV.out, NK.out.2.2.row R_g_J.out (by simp)⟩
          case measure => simp [intOf]; omega)
    · have hend : ¬ j < n ∨ ¬ j < 80 := by omega
      have HLX := Lib.hid HL.out.kept
      by_cases hjn : j < n
      · have hj8 : ¬ (j : Int) < 80 := by omega
        have hjn2 : (j : Int) < (n : Int) := by omega
        go_wp2_with fail
        go_ret
        exact ⟨rfl, HLX.out⟩
      · have hjn2 : ¬ (j : Int) < (n : Int) := by omega
        go_wp2_with fail
        go_ret
        exact ⟨rfl, HLX.out⟩
end Go.Proofs.YtmlmhnhilemjhaaDoor
