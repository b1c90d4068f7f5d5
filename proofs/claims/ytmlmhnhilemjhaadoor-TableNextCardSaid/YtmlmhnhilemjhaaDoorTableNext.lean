/-
  TABLENEXT: the law's walk.
-/
import Derived.Test.YtmlmhnhilemjhaaDoorTBX
namespace Go.Proofs.YtmlmhnhilemjhaaDoor
open Go.RowKit
set_option linter.unusedVariables false
set_option maxRecDepth 100000
set_option linter.unusedSimpArgs false

set_option maxHeartbeats 16000000 in
theorem tableNext_law (A : Option Addr) (n c : Nat) (w : World) (hr : ques w A n) (hn : n ≤ c) (hc : c ≤ maxLen) (hsz : sizesAt w) :
    Calls Tryd.prog 4 #[.slice A n c] w fun e w' => e = .returned (.bool true) ∧ keepBut [] w w' := by
  have HSZ := Lib.hid hsz
  have HR := Lib.hid hr
  obtain ⟨ZN, hZN⟩ : ∃ Z, nameL nameZ = Z := ⟨_, rfl⟩
  have hzn := zv_nm
  rw [hZN] at hzn
  obtain ⟨ZA, hZA⟩ : ∃ Z, anL anZero nilV = Z := ⟨_, rfl⟩
  have hza := zv_an
  rw [hZA] at hza
  have HZN := Lib.hid (And.intro hzn (And.intro (show ZN.length = 32 by rw [← hZN, nameL_len, nameZ_len]) hZN))
  have HZA := Lib.hid (And.intro hza (show ZA.length = 38 by rw [← hZA]; exact anZ_len))
  clear hsz hr hzn hZN hza hZA
  go_enter Tryd.func4, Tryd.ntmps4
  go_upto_region 2 with (go_at_call 7; refine (new_law w [] w (keepBut.refl _ _) HSZ.out (by simp)).mono ?_; rintro e w2 ⟨p, rfl, h2, k2, hp⟩; have H2 := Lib.hid (And.intro h2 k2); clear h2 k2 hp)
  go_upto_region 4 with fail
  have rg := rowAt.new w2 26 #[.int .i64 0, .int .i64 0, .int .i64 0]
  have kg := (keepBut.refl [] w2).alloc (.cells #[.int .i64 0, .int .i64 0, .int .i64 0] 26)
  obtain ⟨g, hg⟩ : ∃ g, w2.heap.size = g := ⟨_, rfl⟩
  rw [hg] at rg
  try rw [hg]
  generalize w2.alloc (.cells #[.int .i64 0, .int .i64 0, .int .i64 0] 26) = w3 at *
  have hw2 := H2.out.1.kept.size
  have HG0 := Lib.hid (show w.heap.size ≤ g by omega)
  have hlt0 := rg.lt
  have hL0 : lawT w [g] w3 p P0 := H2.out.1.also kg (fun y hy => by simp at hy; subst hy; omega)
  have HL0 := Lib.hid hL0
  have RG0 := Lib.hid rg
  have HI0 := Lib.hid (inv_new hL0.ok)
  clear rg kg hg hw2 hlt0 hL0
  go_loopw [5] (fun i wr => ∃ (j : Nat) (P : PT) (ns : List Int), i = .int .i64 j ∧ (j ≤ n ∧ j ≤ 60) ∧ lawT w [g] wr p P ∧ P.inv ns j ∧ rowAt wr g 26 (ns.map (Value.int .i64)).toArray) (fun i _ => n - (intOf i).toNat)
  case atStart => exact ⟨0, P0, [0, 0, 0], rfl, by omega, HL0.out, HI0.out, RG0.out⟩
  case round =>
    obtain ⟨j, P, ns, rfl, ⟨hj, hj80⟩, hl, hi, hrg⟩ := hrel
    have HL := Lib.hid hl
    have HI := Lib.hid hi
    have RG := Lib.hid hrg
    clear hl hi hrg HL0 HI0 RG0
    by_cases hlt : j < n ∧ j < 60
    · obtain ⟨hlt, hlt8⟩ := hlt
      obtain ⟨ga, oa, rfl, hga, hel⟩ := HR.out (by omega)
      obtain ⟨x, hx, hrx⟩ := (hel j hlt).read
      have HX := Lib.hid hx
      have HRX := Lib.hid (quesAt.keep hrx hga HL.out.kept)
      have bj : (j : Int) < (n : Int) := by omega
      have bj8 : (j : Int) < 60 := by omega
      clear hx hrx hel hga
      have hb : ∀ k, 0 ≤ numAt ns k ∧ numAt ns k ≤ 1000000 := fun k => by have := HI.out.nums k; omega
      have HB := Lib.hid hb
      clear hb
      have HMF := Lib.hid (made_facts HI.out (by omega) x)
      have hon := fun h => once_made HI.out (by omega) x h
      have HON := Lib.hid hon
      clear hon
      have HMA := Lib.hid (made_any w [g] wr p g P x ns HL.out HX.out HI.out.len RG.out ⟨by simp, HG0.out⟩ HB.out)
      unfold madePost at HMA
      obtain ⟨r, hr⟩ : ∃ r, madeP P x ns = r := ⟨_, rfl⟩
      rw [hr] at HMF HON HMA
      clear hr
      obtain ⟨⟨P1, a, e1⟩, hy⟩ : ∃ y, P.done r = y := ⟨_, rfl⟩
      rw [hy] at HON
      have HY := Lib.hid hy
      clear hy
      have HIK : Hid ((Tryd.prog.info? 34).map (·.size) = some (askL x).length) := Lib.hid (by kernel_rfl)
      obtain ⟨XK, hXK⟩ : ∃ X, askL x = X := ⟨_, rfl⟩
      rw [hXK] at HRX HIK HMA
      clear hXK
      go_wp2_with (first
        | (refine wpList_load_mid rfl 34 (.tmp 32) rfl ga (oa + j * 5) rfl XK _ HRX.out Tryd.underlying34 rfl HIK.out ?_)
        | (go_at_call 8; refine HMA.out.mono ?_; rintro e w4 ⟨v, G1, rfl, q4⟩; have Q4 := Lib.hid q4; clear q4; obtain ⟨X, hX⟩ : ∃ X, rqL r v = X := ⟨_, rfl⟩; have HXR := Lib.hid hX; have HL4 : Hid (lawT w ([g] ++ G1) w4 p P) := Lib.hid (HL.out.pokeAlso Q4.out.2.2.2.2 (fun y hy => by simp at hy; subst hy; exact ⟨by simp, HG0.out, _, _, RG.out, by decide⟩) Q4.out.2.1); rw [hX]; clear hX)
        | (go_at_call 11; refine (HL4.out.done2 (F := G1) ⟨HMF.out.2.2.2.1, Q4.out.1.2⟩ HXR.out HY.out).mono ?_; rintro e w5 ⟨va, Ga, rfl, n5⟩; have N5 := Lib.hid n5; clear n5))
      obtain ⟨hon, hinv⟩ := HON.out N5.out.2.2.1.ok
      have HINV := Lib.hid hinv
      clear hon hinv
      go_roundw
      case rel => exact ⟨j + 1, P1, numsP x ns, by go_num, by omega, N5.out.2.2.1.less (fun y hy => by simp at hy; subst hy; simp), HINV.out, N5.out.2.2.2.1.row Q4.out.2.2.1 (by simp)⟩
      case measure => simp [intOf]; omega
    · have hjj : ¬ j < n ∨ (j < n ∧ ¬ j < 60) := by omega
      have HI60 : Hid (P.inv ns 60) := Lib.hid ⟨HI.out.ok, HI.out.len, fun k => by have := HI.out.nums k; omega, HI.out.last, fun b hb => by have := HI.out.vers b hb; omega⟩
      clear hlt
      rcases hjj with hjn | ⟨hjn, hjs⟩
      focus (
        have hjn2 : ¬ (j : Int) < (n : Int) := by omega
        clear hjn
        go_upto_region 7 with fail
        clear hjn2)
      rotate_left
      focus (
        have hjn2 : (j : Int) < (n : Int) := by omega
        have hjs2 : ¬ (j : Int) < 60 := by omega
        clear hjn hjs
        go_upto_region 7 with fail
        clear hjn2 hjs2)
      all_goals (
        have HIx := HI60
        clear HI HI60
        have HI := HIx
        clear HIx
        obtain ⟨m0, m1, m2, rfl⟩ := three HI.out.len
        have RGx : Hid (rowAt wr g 26 #[.int .i64 m0, .int .i64 m1, .int .i64 m2]) := RG
        clear RG
        have RG := RGx
        clear RGx
        have HST := Lib.hid (walkI.start HI.out)
        have HM0 : Hid (0 ≤ m0 ∧ m0 ≤ 60) := Lib.hid (HI.out.nums 0)
        have HN7 := Lib.hid HL.out.names
        go_upto_region 8 with (first
          | (go_at_call 14; refine HN7.out.mono ?_; rintro e w7 ⟨v6, rfl, n7⟩; have N7 := Lib.hid n7; clear n7))
        have HL7 : Hid (lawT w ([g] ++ homes v6) w7 p P) := Lib.hid (HL.out.also N7.out.2.2 (fun y hy => ⟨N7.out.2.1 y hy, N7.out.1.lt y hy⟩))
        have RG7 := Lib.hid (N7.out.2.2.row RG.out (by simp))
        clear HN7
        go_upto_region 10 with (first
          | (refine wpList_alloc_to _ _ rfl 28 rfl _ HZN.out.1 (rfl : w7.alloc (.cells ZN.toArray 28) = _) ?_))
        have rd := rowAt.new w7 28 ZN.toArray
        have kd := (keepBut.refl [] w7).alloc (.cells ZN.toArray 28)
        obtain ⟨d, hd⟩ : ∃ d, w7.heap.size = d := ⟨_, rfl⟩
        rw [hd] at rd
        try rw [hd]
        generalize w7.alloc (.cells ZN.toArray 28) = w8 at *
        have hdl := rd.lt
        have RD := Lib.hid rd
        have HD0 := Lib.hid (show w.heap.size ≤ d by have := HL7.out.kept.size; omega)
        have HDN : Hid (d ∉ homes v6) := Lib.hid (fun hm_ => by have := N7.out.1.lt d hm_; omega)
        have HL8 : Hid (lawT w (([g] ++ homes v6) ++ [d]) w8 p P) := Lib.hid (HL7.out.also kd (fun y hy => by simp at hy; subst hy; omega))
        have RG8 := Lib.hid (kd.row RG7.out (by simp))
        have OW8 := Lib.hid (N7.out.1.keep kd (by simp))
        clear rd kd hd hdl
        have hge := HL8.out.get (t := nameZ) nameZ_len
        rw [HZN.out.2.2] at hge
        have HGE := Lib.hid hge
        clear hge
        have HIN : Hid ((Tryd.prog.info? 28).map (·.size) = some ZN.length) := Lib.hid (by rw [HZN.out.2.1]; exact infoName)
        obtain ⟨A6, c6, hv6, _⟩ := N7.out.1.form
        skip
        go_upto_region 11 with (first
          | (refine wpList_load_mid rfl 28 (.tmp 7) rfl d 0 rfl ZN _ RD.out.rangeAll Tryd.underlying28 rfl HIN.out ?_)
          | (go_at_call 9; refine HGE.out.mono ?_; rintro e w9 ⟨v9, G9, rfl, n9⟩; have N9 := Lib.hid n9; clear n9))
        rcases Bool.eq_false_or_eq_true (P.hit nameZ) with hh | hh
        focus (
          have hs := HST.out.2 hh
          have hs1 : (0 : Int) < P.ver nameZ := by have := hs.2; omega
          have HW0 := Lib.hid hs.1
          have hl1 : 1 ≤ P.names.length := by
            have := (PT.ok.next_zero HI.out.ok).2 hh
            exact (List.getElem?_eq_some_iff.1 this).1
          have HL1 := Lib.hid hl1
          clear hs hh hl1
          go_upto_region 13 with fail
          clear hs1)
        rotate_left
        focus (
          have hs := HST.out.1 hh
          have hs1 : P.ver nameZ = 0 := hs.2
          have HW0 := Lib.hid hs.1
          have HL1 := Lib.hid (Nat.zero_le P.names.length)
          clear hs hh
          go_upto_region 13 with fail
          clear hs1)
        all_goals (
          have k8 := N9.out.2.2
          have HL9 := Lib.hid (HL8.out.over k8)
          have RG9 := Lib.hid (k8.row RG8.out (by simp))
          have RD9 := Lib.hid (k8.row RD.out (by simp))
          have OW9 := Lib.hid (OW8.out.keep k8 (by simp))
          clear k8 HGE HST
          obtain rfl := hv6
          go_loopw [8] (fun kv wr => ∃ (k : Nat) (Q : PT) (m : Int) (at_ : List UInt8), kv = .int .i64 k ∧ k ≤ P.names.length ∧ (0 ≤ m ∧ m ≤ 60 + k) ∧ lawT w (([g] ++ homes (.slice A6 P.names.length c6)) ++ [d]) wr p Q ∧ walkI P Q m at_ k ∧ rowAt wr g 26 #[.int .i64 m, .int .i64 m1, .int .i64 m2] ∧ rowAt wr d 28 (nameL at_).toArray ∧ owns wr 28 32 (.slice A6 P.names.length c6) P.names.length (flatN P.names)) (fun kv _ => P.names.length - (intOf kv).toNat)
          case atStart => first | exact ⟨1, P, m0, nameZ, rfl, HL1.out, by have := HM0.out; omega, HL9.out, HW0.out, RG9.out, by rw [HZN.out.2.2]; exact RD9.out, OW9.out⟩ | exact ⟨0, P, m0, nameZ, rfl, HL1.out, by have := HM0.out; omega, HL9.out, HW0.out, RG9.out, by rw [HZN.out.2.2]; exact RD9.out, OW9.out⟩
          case round =>
            obtain ⟨k, Q, m, at_, rfl, hk, hm, hl, hwk, hrg, hrd, how⟩ := hrel
            have HLQ := Lib.hid hl
            have HWK := Lib.hid hwk
            have RGQ := Lib.hid hrg
            have RDQ := Lib.hid hrd
            have OWQ := Lib.hid how
            have hpl : P.names.length ≤ 100 := by
              obtain ⟨s_, hs1, hs2, _⟩ := HL.out.is
              rw [← hs2, names_pure]; exact hs1.small
            have HPL := Lib.hid hpl
            clear hl hwk hrg hrd how RG9 RD9 OW9 HL9 HW0
            have hwm : IntKind.i64.wrap (m + 1) = m + 1 := by rw [IntKind.wrap_i64]; omega
            obtain ⟨NA, hNA⟩ : ∃ X, nameL at_ = X := ⟨_, rfl⟩
            rw [hNA] at RDQ
            have HNA := Lib.hid (And.intro (show NA.length = 32 by rw [← hNA, nameL_len]; exact HWK.out.len) (And.intro (show ∀ u ∈ NA, u.oneCell' = true by rw [← hNA]; exact nameL_one) hNA))
            have HINA : Hid ((Tryd.prog.info? 28).map (·.size) = some NA.length) := Lib.hid (by rw [HNA.out.1]; exact infoName)
            obtain ⟨X, hX⟩ : ∃ X, rqL (⟨0, m + 1, 3, 0, at_, []⟩ : RQ) nilV = X := ⟨_, rfl⟩
            have hbb : Tryd.prog.built 31 _ = some (rqL (⟨0, m + 1, 3, 0, at_, []⟩ : RQ) nilV).toArray := build_rq124 (m + 1) 3 at_ HWK.out.len
            rw [hX, hNA] at hbb
            have HXB := Lib.hid (And.intro hX hbb)
            clear hX hbb hNA
            obtain ⟨⟨Q1, a, e1⟩, hy⟩ : ∃ y, Q.done ⟨0, m + 1, 3, 0, at_, []⟩ = y := ⟨_, rfl⟩
            have HY := Lib.hid hy
            clear hy
            by_cases hlt : k < P.names.length
            · obtain ⟨nk, hnk⟩ : ∃ x, P.names[k]? = some x := ⟨_, List.getElem?_eq_getElem hlt⟩
              have hln : nk.length = 32 := HI.out.ok.names nk (List.mem_of_getElem? hnk)
              obtain ⟨gn, cn, hvn, hrn⟩ := ownsN_at HI.out.ok.names OWQ.out hnk
              injection hvn with hvn1 _ hvn3
              subst hvn1
              subst hvn3
              clear hrn
              obtain ⟨NK, hNK⟩ : ∃ X, nameL nk = X := ⟨_, rfl⟩
              have HNK := Lib.hid (And.intro (show NK.length = 32 by rw [← hNK, nameL_len, hln]) (And.intro (show ∀ u ∈ NK, u.oneCell' = true by rw [← hNK]; exact nameL_one) hNK))
              have HINK : Hid ((Tryd.prog.info? 28).map (·.size) = some NK.length) := Lib.hid (by rw [HNK.out.1]; exact infoName)
              have HRN : Hid (∀ V, owns V 28 32 (.slice (some ⟨gn, 0, none⟩) P.names.length c6) P.names.length (flatN P.names) → V.rangeAt gn (k * 32) NK) := Lib.hid (fun V hV => by
                obtain ⟨g_, c_, hv_, hr_⟩ := ownsN_at HI.out.ok.names hV hnk
                injection hv_ with hv1 _ hv3
                injection hv1 with hv1
                injection hv1 with hv1
                subst hv1
                rw [← hNK]; exact hr_)
              have HNN := Lib.hid (And.intro hnk hln)
              clear hnk hln hNK
              have bk : (k : Int) < (P.names.length : Int) := by omega
              have y0 : wr.cell? ⟨g, 0, none⟩ = some (.int .i64 m) := RGQ.out.cell 0
              have f0 := RGQ.out.free 0
              go_upto_region 16 with fail
              have rg1 : rowAt (wr.setCell ⟨g, 0, none⟩ (.int .i64 (m + 1))) g 26 #[.int .i64 (m + 1), .int .i64 m1, .int .i64 m2] := RGQ.out.set 0 _
              have kg1 := kset wr g 0 (.int .i64 (m + 1))
              generalize wr.setCell ⟨g, 0, none⟩ (.int .i64 (m + 1)) = u1 at *
              have HLU := Lib.hid (HLQ.out.poke kg1 (fun y hy => by simp at hy; subst hy; exact ⟨by simp, HG0.out, _, _, RGQ.out, by decide⟩))
              have hgd : d ∉ [g] := fun hm_ => by simp at hm_; subst hm_; exact absurd (RDQ.out.uniq RGQ.out).1 (by decide)
              have RDU := Lib.hid (kg1.row RDQ.out hgd)
              have OWU := Lib.hid (OWQ.out.keep kg1 (fun y hy hm_ => by simp at hm_; subst hm_; exact OWQ.out.apart RGQ.out (by decide) hy))
              have RGU := Lib.hid rg1
              clear y0 f0 rg1 kg1 hgd
              have y1 : u1.cell? ⟨g, 0, none⟩ = some (.int .i64 (m + 1)) := RGU.out.cell 0
              have HDO := Lib.hid (HLU.out.done2 (F := []) (r := ⟨0, m + 1, 3, 0, at_, []⟩) ⟨HWK.out.len, bytesV.nil _ _⟩ HXB.out.1 HY.out)
              go_upto_region 17 with (first
                | (refine wpList_load_mid rfl 28 (.tmp 7) rfl d 0 rfl NA _ RDU.out.rangeAll Tryd.underlying28 rfl HINA.out ?_)
                | (refine wpList_build_pt _ rfl 31 _ rfl X.toArray (by simp only [List.map_toArray, List.map_cons, List.map_nil]; go_simp; exact HXB.out.2) ?_)
                | (go_at_call 11; refine HDO.out.mono ?_; rintro e u2 ⟨va, Ga, rfl, n_⟩; have N2 := Lib.hid n_; clear n_; obtain ⟨Y, hY⟩ : ∃ Y, anL a va = Y := ⟨_, rfl⟩; have HYA := Lib.hid (And.intro (show Y.length = 38 by rw [← hY]; exact anL_len N2.out.2.2.2.2) (And.intro (show ∀ u ∈ Y, u.oneCell' = true by rw [← hY]; exact anL_one _ N2.out.1.one) hY)); rw [hY]; clear hY)
                | (refine wpList_alloc_to _ _ rfl 40 rfl _ HZA.out.1 (rfl : u2.alloc (.cells ZA.toArray 40) = _) ?_; have RZba := Lib.hid (rowAt.new u2 40 ZA.toArray); have KZba := Lib.hid ((keepBut.refl [] u2).alloc (.cells ZA.toArray 40)); obtain ⟨ba, hd_⟩ : ∃ d, u2.heap.size = d := ⟨_, rfl⟩; have HDba := Lib.hid hd_; rw [hd_] at RZba ⊢; generalize u2.alloc (.cells ZA.toArray 40) = u3 at *; clear hd_)
                | (refine wpList_store_mid rfl 40 (.tmp 11) (.tmp 63) rfl ba 0 Y.toArray rfl rfl (RZba.out.there (by simp only [List.size_toArray]; rw [HYA.out.1, HZA.out.2]; omega)) (by rw [List.size_toArray, HYA.out.1]; exact info_an) (all_oneCell_toArray HYA.out.2.1) ?_))
              have r_ := RZba.out.setL (vs := Y) (o := 0)
              rw [putL_all (by simp only [List.size_toArray]; rw [HYA.out.1, HZA.out.2])] at r_
              have k_ := (keepBut.refl [ba] u3).setL (vs := Y) (g := ba) (o := 0) (.inl (by simp))
              try simp only [List.toList_toArray]
              generalize u3.setCells ba 0 Y = u4 at *
              have k24 : keepBut [] u2 u4 := KZba.out.then k_ (fun y hy => by simp at hy; subst hy; right; have := HDba.out; omega)
              have Rba := Lib.hid r_
              clear k_ r_
              have K24 := Lib.hid k24
              clear k24 y1 HDO
              have hst := HWK.out.step (by omega) HNN.out.1 HY.out N2.out.2.2.1.ok
              obtain ⟨rfl, hcode, hname, hver, henv, hwk2⟩ := hst
              have HWK2 := Lib.hid hwk2
              have HFA := Lib.hid (And.intro hcode (And.intro hname (And.intro hver henv)))
              clear hcode hname hver henv hwk2
              have HL4 : Hid (lawT w (((([g] ++ homes (.slice (some ⟨gn, 0, none⟩) P.names.length c6)) ++ [d]) ++ Ga) ++ [ba]) u4 p Q1) := Lib.hid (N2.out.2.2.1.also K24.out (fun y hy => by simp at hy; subst hy; have := HDba.out; have := Rba.out.lt; omega))
              have RG4 := Lib.hid (K24.out.row (N2.out.2.2.2.1.row RGU.out (by simp)) (by simp))
              have RD4 := Lib.hid (K24.out.row (N2.out.2.2.2.1.row RDU.out (by simp)) (by simp))
              have OW4 := Lib.hid ((N2.out.2.2.2.1.owns OWU.out (by intro y hy; simp [hy])).keep K24.out (by simp))
              have VA4 := Lib.hid (N2.out.1.keep K24.out (by simp))
              have HRN4 := Lib.hid (HRN.out _ OW4.out)
              have hge := HL4.out.get (t := nk) HNN.out.2
              rw [HNK.out.2.2] at hge
              have HGE := Lib.hid hge
              clear hge
              go_upto_region 18 with (first
                | (refine wpList_load_mid rfl 28 (.tmp 69) rfl gn (k * 32) rfl NK _ HRN4.out Tryd.underlying28 rfl HINK.out ?_)
                | (go_at_call 9; refine HGE.out.mono ?_; rintro e u5 ⟨vg, Gg, rfl, n5⟩; have N5 := Lib.hid n5; clear n5))
              have HC : Hid (∀ V, keepBut [] u5 V → V.cell? ⟨ba, 2, none⟩ = some (.int .i64 0) ∧ V.cell? ⟨ba, 3, none⟩ = some (.int .i64 (Q1.ver nk)) ∧ V.cell? ⟨ba, 37, none⟩ = some va ∧ V.rangeAt ba 5 NK ∧ V.rangeAt gn (k * 32) NK) := Lib.hid (fun V kk => by
                have k5 := N5.out.2.2.then kk (by simp)
                have rr := k5.row Rba.out (by simp)
                rw [← HYA.out.2.2] at rr
                refine ⟨(rr.cell 2).trans ?_, (rr.cell 3).trans ?_, (rr.cell 37).trans (anL_env N2.out.2.2.2.2), rr.range (fun i u hu => anL_name a va i u (by rw [HFA.out.2.1, HNK.out.2.2]; exact hu)), HRN.out V (OW4.out.keep k5 (by simp))⟩
                · rw [← HFA.out.1]; rfl
                · rw [← HFA.out.2.2.1]; rfl)
              have hvp : 1 ≤ Q1.ver nk := (PT.ok.ver_hit HL4.out.ok (fun b hb => by rw [HWK2.out.objs] at hb; exact (HI.out.vers b hb).1) nk).1 (PT.ok.next_at HL4.out.ok (i := k) (by rw [HWK2.out.names]; exact HNN.out.1)).2
              have hv1 : ¬ Q1.ver nk < 1 := by omega
              have HNEQ : Hid (∀ V, (binOp .neq 28 (.agg NK.toArray) (.agg NK.toArray)).run Tryd.prog V = .ok (.bool false) V) := Lib.hid (fun V => by rw [← HNK.out.2.2]; exact name_neq nk HNN.out.2 V)
              have hee : (a.env == Q1.env nk) = true := by rw [HFA.out.2.2.2]; simp
              have HEE := Lib.hid hee
              clear hee hvp
              have KS : keepBut [] u5 u5.drew := (keepBut.refl [] u5).drew
              refine wp_region_held_drew (S := fun V => keepBut [] u5 V) (by kernel_rfl) KS (fun _ => ?_)
              refine wpAnyH_take (i := 0) (oi := ⟨_, _, _, _, _, _⟩) (v := ?_) rfl (by kernel_rfl) (by kernel_rfl) (by kernel_rfl) (fun _ _ _ h => h) (Or.inl ⟨by rfl, ?_⟩) KS ?_
              rotate_left
              · intro w' hSw; (go_simp; try with_reducible rfl)
              try simp only [Act.put, List.setIfInBounds_toArray, List.set_cons_zero, List.set_cons_succ]
              refine wpAnyH_take (i := 1) (oi := ⟨_, _, _, _, _, _⟩) (v := ?_) rfl (by kernel_rfl) (by kernel_rfl) (by kernel_rfl) (fun _ _ _ h => h) (Or.inl ⟨by rfl, ?_⟩) KS ?_
              rotate_left
              · intro w' hSw; (go_simp; try with_reducible rfl)
              try simp only [Act.put, List.setIfInBounds_toArray, List.set_cons_zero, List.set_cons_succ]
              refine wpAnyH_take (i := 2) (oi := ⟨_, _, _, _, _, _⟩) (v := ?_) rfl (by kernel_rfl) (by kernel_rfl) (by kernel_rfl) (fun _ _ _ h => h) (Or.inl ⟨by rfl, ?_⟩) KS ?_
              rotate_left
              · intro w' hSw; (go_simp; try with_reducible rfl)
              try simp only [Act.put, List.setIfInBounds_toArray, List.set_cons_zero, List.set_cons_succ]
              refine wpAnyH_take (i := 3) (oi := ⟨_, _, _, _, _, _⟩) (v := ?_) rfl (by kernel_rfl) (by kernel_rfl) (by kernel_rfl) (fun _ _ _ h => h) (Or.inl ⟨by rfl, ?_⟩) KS ?_
              rotate_left
              · intro w' hSw; (go_simp; try with_reducible rfl)
              try simp only [Act.put, List.setIfInBounds_toArray, List.set_cons_zero, List.set_cons_succ]
              refine wpAnyH_take (i := 4) (oi := ⟨_, _, _, _, _, _⟩) (v := ?_) rfl (by kernel_rfl) (by kernel_rfl) (by kernel_rfl) (fun _ _ _ h => h) (Or.inl ⟨by rfl, ?_⟩) KS ?_
              rotate_left
              · intro w' hSw; have hy := (HC.out w' hSw).1; (go_simp; try with_reducible rfl)
              try simp only [Act.put, List.setIfInBounds_toArray, List.set_cons_zero, List.set_cons_succ]
              refine wpAnyH_take (i := 5) (oi := ⟨_, _, _, _, _, _⟩) (v := ?_) rfl (by kernel_rfl) (by kernel_rfl) (by kernel_rfl) (fun _ _ _ h => h) (Or.inl ⟨by rfl, ?_⟩) KS ?_
              rotate_left
              · intro w' hSw; (go_simp; try with_reducible rfl)
              try simp only [Act.put, List.setIfInBounds_toArray, List.set_cons_zero, List.set_cons_succ]
              refine wpAnyH_take (i := 6) (oi := ⟨_, _, _, _, _, _⟩) (v := ?_) rfl (by kernel_rfl) (by kernel_rfl) (by kernel_rfl) (fun _ _ _ h => h) (Or.inl ⟨by rfl, ?_⟩) KS ?_
              rotate_left
              · intro w' hSw; (go_simp; try with_reducible rfl)
              try simp only [Act.put, List.setIfInBounds_toArray, List.set_cons_zero, List.set_cons_succ]
              refine wpAnyH_take (i := 7) (oi := ⟨_, _, _, _, _, _⟩) (v := ?_) rfl (by kernel_rfl) (by kernel_rfl) (by kernel_rfl) (fun _ _ _ h => h) (Or.inl ⟨by rfl, ?_⟩) KS ?_
              rotate_left
              · intro w' hSw; (go_simp; try with_reducible rfl)
              try simp only [Act.put, List.setIfInBounds_toArray, List.set_cons_zero, List.set_cons_succ]
              refine wpAnyH_take (i := 8) (oi := ⟨_, _, _, _, _, _⟩) (v := ?_) rfl (by kernel_rfl) (by kernel_rfl) (by kernel_rfl) (fun _ _ _ h => h) (Or.inl ⟨by rfl, ?_⟩) KS ?_
              rotate_left
              · intro w' hSw; (go_simp; try with_reducible rfl)
              try simp only [Act.put, List.setIfInBounds_toArray, List.set_cons_zero, List.set_cons_succ]
              refine wpAnyH_take (i := 9) (oi := ⟨_, _, _, _, _, _⟩) (v := .agg (NK).toArray) rfl (by kernel_rfl) (by kernel_rfl) (by kernel_rfl) (fun _ _ _ h => h) (yieldsIf_mid 28 (.tmp 82) rfl ba 5 rfl (NK) _ (fun w' hSw => (HC.out w' hSw).2.2.2.1) Tryd.underlying28 rfl (HINK.out) ?_) KS ?_
              · rfl
              try simp only [Act.put, List.setIfInBounds_toArray, List.set_cons_zero, List.set_cons_succ]
              refine wpAnyH_take (i := 10) (oi := ⟨_, _, _, _, _, _⟩) (v := ?_) rfl (by kernel_rfl) (by kernel_rfl) (by kernel_rfl) (fun _ _ _ h => h) (Or.inl ⟨by rfl, ?_⟩) KS ?_
              rotate_left
              · intro w' hSw; (go_simp; try with_reducible rfl)
              try simp only [Act.put, List.setIfInBounds_toArray, List.set_cons_zero, List.set_cons_succ]
              refine wpAnyH_take (i := 11) (oi := ⟨_, _, _, _, _, _⟩) (v := ?_) rfl (by kernel_rfl) (by kernel_rfl) (by kernel_rfl) (fun _ _ _ h => h) (Or.inl ⟨by rfl, ?_⟩) KS ?_
              rotate_left
              · intro w' hSw; (go_simp; try with_reducible rfl)
              try simp only [Act.put, List.setIfInBounds_toArray, List.set_cons_zero, List.set_cons_succ]
              refine wpAnyH_take (i := 12) (oi := ⟨_, _, _, _, _, _⟩) (v := ?_) rfl (by kernel_rfl) (by kernel_rfl) (by kernel_rfl) (fun _ _ _ h => h) (Or.inl ⟨by rfl, ?_⟩) KS ?_
              rotate_left
              · intro w' hSw; (go_simp; try with_reducible rfl)
              try simp only [Act.put, List.setIfInBounds_toArray, List.set_cons_zero, List.set_cons_succ]
              refine wpAnyH_take (i := 13) (oi := ⟨_, _, _, _, _, _⟩) (v := .agg (NK).toArray) rfl (by kernel_rfl) (by kernel_rfl) (by kernel_rfl) (fun _ _ _ h => h) (yieldsIf_mid 28 (.tmp 86) rfl gn (k * 32) rfl (NK) _ (fun w' hSw => (HC.out w' hSw).2.2.2.2) Tryd.underlying28 rfl (HINK.out) ?_) KS ?_
              · rfl
              try simp only [Act.put, List.setIfInBounds_toArray, List.set_cons_zero, List.set_cons_succ]
              refine wpAnyH_take (i := 14) (oi := ⟨_, _, _, _, _, _⟩) (v := .bool false) rfl (by kernel_rfl) (by kernel_rfl) (by kernel_rfl) (fun _ _ _ h => h) (yieldsIf_bin_agg .neq 28 28 (.tmp 83) (.tmp 87) rfl guardName NK.toArray NK.toArray rfl rfl _ HNEQ.out ?_) KS ?_
              · rfl
              try simp only [Act.put, List.setIfInBounds_toArray, List.set_cons_zero, List.set_cons_succ]
              refine wpAnyH_take (i := 15) (oi := ⟨_, _, _, _, _, _⟩) (v := ?_) rfl (by kernel_rfl) (by kernel_rfl) (by kernel_rfl) (fun _ _ _ h => h) (Or.inl ⟨by rfl, ?_⟩) KS ?_
              rotate_left
              · intro w' hSw; (go_simp; try with_reducible rfl)
              try simp only [Act.put, List.setIfInBounds_toArray, List.set_cons_zero, List.set_cons_succ]
              refine wpAnyH_take (i := 16) (oi := ⟨_, _, _, _, _, _⟩) (v := ?_) rfl (by kernel_rfl) (by kernel_rfl) (by kernel_rfl) (fun _ _ _ h => h) (Or.inl ⟨by rfl, ?_⟩) KS ?_
              rotate_left
              · intro w' hSw; (go_simp; try with_reducible rfl)
              try simp only [Act.put, List.setIfInBounds_toArray, List.set_cons_zero, List.set_cons_succ]
              refine wpAnyH_take (i := 17) (oi := ⟨_, _, _, _, _, _⟩) (v := ?_) rfl (by kernel_rfl) (by kernel_rfl) (by kernel_rfl) (fun _ _ _ h => h) (Or.inl ⟨by rfl, ?_⟩) KS ?_
              rotate_left
              · intro w' hSw; (go_simp; try with_reducible rfl)
              try simp only [Act.put, List.setIfInBounds_toArray, List.set_cons_zero, List.set_cons_succ]
              refine wpAnyH_take (i := 18) (oi := ⟨_, _, _, _, _, _⟩) (v := ?_) rfl (by kernel_rfl) (by kernel_rfl) (by kernel_rfl) (fun _ _ _ h => h) (Or.inl ⟨by rfl, ?_⟩) KS ?_
              rotate_left
              · intro w' hSw; have hy := (HC.out w' hSw).2.1; (go_simp; try with_reducible rfl)
              try simp only [Act.put, List.setIfInBounds_toArray, List.set_cons_zero, List.set_cons_succ]
              refine wpAnyH_take (i := 19) (oi := ⟨_, _, _, _, _, _⟩) (v := ?_) rfl (by kernel_rfl) (by kernel_rfl) (by kernel_rfl) (fun _ _ _ h => h) (Or.inl ⟨by rfl, ?_⟩) KS ?_
              rotate_left
              · intro w' hSw; (go_simp; try with_reducible rfl)
              try simp only [Act.put, List.setIfInBounds_toArray, List.set_cons_zero, List.set_cons_succ]
              refine wpAnyH_take (i := 20) (oi := ⟨_, _, _, _, _, _⟩) (v := ?_) rfl (by kernel_rfl) (by kernel_rfl) (by kernel_rfl) (fun _ _ _ h => h) (Or.inl ⟨by rfl, ?_⟩) KS ?_
              rotate_left
              · intro w' hSw; (go_simp; try with_reducible rfl)
              try simp only [Act.put, List.setIfInBounds_toArray, List.set_cons_zero, List.set_cons_succ]
              refine wpAnyH_take (i := 21) (oi := ⟨_, _, _, _, _, _⟩) (v := ?_) rfl (by kernel_rfl) (by kernel_rfl) (by kernel_rfl) (fun _ _ _ h => h) (Or.inl ⟨by rfl, ?_⟩) KS ?_
              rotate_left
              · intro w' hSw; (go_simp; try with_reducible rfl)
              try simp only [Act.put, List.setIfInBounds_toArray, List.set_cons_zero, List.set_cons_succ]
              refine wpAnyH_take (i := 22) (oi := ⟨_, _, _, _, _, _⟩) (v := ?_) rfl (by kernel_rfl) (by kernel_rfl) (by kernel_rfl) (fun _ _ _ h => h) (Or.inl ⟨by rfl, ?_⟩) KS ?_
              rotate_left
              · intro w' hSw; (go_simp; try with_reducible rfl)
              try simp only [Act.put, List.setIfInBounds_toArray, List.set_cons_zero, List.set_cons_succ]
              refine wpAnyH_take (i := 23) (oi := ⟨_, _, _, _, _, _⟩) (v := ?_) rfl (by kernel_rfl) (by kernel_rfl) (by kernel_rfl) (fun _ _ _ h => h) (Or.inl ⟨by rfl, ?_⟩) KS ?_
              rotate_left
              · intro w' hSw; (go_simp; try with_reducible rfl)
              try simp only [Act.put, List.setIfInBounds_toArray, List.set_cons_zero, List.set_cons_succ]
              refine wpAnyH_take (i := 24) (oi := ⟨_, _, _, _, _, _⟩) (v := ?_) rfl (by kernel_rfl) (by kernel_rfl) (by kernel_rfl) (fun _ _ _ h => h) (Or.inl ⟨by rfl, ?_⟩) KS ?_
              rotate_left
              · intro w' hSw; have hy := (HC.out w' hSw).2.2.1; (go_simp; try with_reducible rfl)
              try simp only [Act.put, List.setIfInBounds_toArray, List.set_cons_zero, List.set_cons_succ]
              refine wpAnyH_take (i := 25) (oi := ⟨_, _, _, _, _, _⟩) (v := ?_) rfl (by kernel_rfl) (by kernel_rfl) (by kernel_rfl) (fun _ _ _ h => h) (Or.inl ⟨by rfl, ?_⟩) KS ?_
              rotate_left
              · intro w' hSw; (go_simp; try with_reducible rfl)
              try simp only [Act.put, List.setIfInBounds_toArray, List.set_cons_zero, List.set_cons_succ]
              refine wpAnyH_ready (rs := [26]) (by kernel_rfl) (by simp) ?_
              refine AllReadyH.cons (o := ⟨_, _, _, _, _, _⟩) rfl (fun K hK => ?_) AllReadyH.nil
              go_simp
              refine (eqb_any (VA4.out.keep (N5.out.2.2.then KS (by simp)) (by simp)) (N5.out.1.keep KS (by simp))).mono ?_
              rintro e u6 ⟨rfl, rfl⟩
              rw [HEE.out]
              go_wp2_with fail
              refine hK.out _ _ KS (fun _ => ?_)
              clear hK K
              try simp only [Act.put, List.setIfInBounds_toArray, List.set_cons_zero, List.set_cons_succ]
              refine wpAnyH_take (i := 27) (oi := ⟨_, _, _, _, _, _⟩) (v := ?_) rfl (by kernel_rfl) (by kernel_rfl) (by kernel_rfl) (fun _ _ _ h => h) (Or.inl ⟨by rfl, ?_⟩) KS ?_
              rotate_left
              · intro w' hSw; (go_simp; try with_reducible rfl)
              try simp only [Act.put, List.setIfInBounds_toArray, List.set_cons_zero, List.set_cons_succ]
              refine wpAnyH_take (i := 28) (oi := ⟨_, _, _, _, _, _⟩) (v := ?_) rfl (by kernel_rfl) (by kernel_rfl) (by kernel_rfl) (fun _ _ _ h => h) (Or.inl ⟨by rfl, ?_⟩) KS ?_
              rotate_left
              · intro w' hSw; (go_simp; try with_reducible rfl)
              try simp only [Act.put, List.setIfInBounds_toArray, List.set_cons_zero, List.set_cons_succ]
              refine wpAnyH_take (i := 29) (oi := ⟨_, _, _, _, _, _⟩) (v := ?_) rfl (by kernel_rfl) (by kernel_rfl) (by kernel_rfl) (fun _ _ _ h => h) (Or.inl ⟨by rfl, ?_⟩) KS ?_
              rotate_left
              · intro w' hSw; (go_simp; try with_reducible rfl)
              try simp only [Act.put, List.setIfInBounds_toArray, List.set_cons_zero, List.set_cons_succ]
              refine wpAnyH_take (i := 30) (oi := ⟨_, _, _, _, _, _⟩) (v := ?_) rfl (by kernel_rfl) (by kernel_rfl) (by kernel_rfl) (fun _ _ _ h => h) (Or.inl ⟨by rfl, ?_⟩) KS ?_
              rotate_left
              · intro w' hSw; (go_simp; try with_reducible rfl)
              try simp only [Act.put, List.setIfInBounds_toArray, List.set_cons_zero, List.set_cons_succ]
              refine wpAnyH_take (i := 31) (oi := ⟨_, _, _, _, _, _⟩) (v := ?_) rfl (by kernel_rfl) (by kernel_rfl) (by kernel_rfl) (fun _ _ _ h => h) (Or.inl ⟨by rfl, ?_⟩) KS ?_
              rotate_left
              · intro w' hSw; (go_simp; try with_reducible rfl)
              try simp only [Act.put, List.setIfInBounds_toArray, List.set_cons_zero, List.set_cons_succ]
              refine wpAnyH_take (i := 32) (oi := ⟨_, _, _, _, _, _⟩) (v := ?_) rfl (by kernel_rfl) (by kernel_rfl) (by kernel_rfl) (fun _ _ _ h => h) (Or.inl ⟨by rfl, ?_⟩) KS ?_
              rotate_left
              · intro w' hSw; (go_simp; try with_reducible rfl)
              try simp only [Act.put, List.setIfInBounds_toArray, List.set_cons_zero, List.set_cons_succ]
              refine wpAnyH_done (by kernel_rfl) ?_ _
              have K5 := Lib.hid (N5.out.2.2.then KS (by simp))
              have RD6 := Lib.hid (K5.out.row RD4.out (by simp))
              have OW6 := Lib.hid (OW4.out.keep K5.out (by simp))
              have HRN6 := Lib.hid (HRN.out _ OW6.out)
              go_wp2_with (first
                | (refine wpList_load_mid rfl 28 (.tmp 109) rfl gn (k * 32) rfl NK _ HRN6.out Tryd.underlying28 rfl HINK.out ?_)
                | (refine wpList_store_mid rfl 28 (.tmp 7) (.tmp 110) rfl d 0 NK.toArray rfl rfl (RD6.out.there (by simp only [List.size_toArray]; rw [HNA.out.1, HNK.out.1]; omega)) (by rw [List.size_toArray]; exact HINK.out) (all_oneCell_toArray HNK.out.2.1) ?_))
              have rD := RD6.out.setL (vs := NK) (o := 0)
              rw [putL_all (by simp only [List.size_toArray]; rw [HNA.out.1, HNK.out.1])] at rD
              have kD := (keepBut.refl [d] u5.drew).setL (vs := NK) (g := d) (o := 0) (.inl (by simp))
              have HLd := HL4.out.over K5.out
              have HRE := Lib.hid (And.intro (HLd.poke kD (fun y hy => by simp at hy; subst hy; exact ⟨by simp, by have := HD0.out; omega, _, _, RD6.out, by decide⟩)) (And.intro (kD.row (K5.out.row RG4.out (by simp)) (fun hm_ => by simp at hm_; subst hm_; exact absurd ((K5.out.row RG4.out (by simp)).uniq RD6.out).1 (by decide))) (OW6.out.keep kD (fun y hy hm_ => by simp at hm_; subst hm_; exact absurd hy (HDN.out)))))
              have HRD : Hid (rowAt (u5.drew.setCells d 0 NK) d 28 (nameL nk).toArray) := Lib.hid (by rw [HNK.out.2.2]; exact rD)
              go_roundw
              case rel => exact ⟨k + 1, Q1, m + 1, nk, by go_num, by omega, by omega, HRE.out.1.less (fun y hy => by simp at hy ⊢; rcases hy with h | h | h <;> simp [h]), HWK2.out, HRE.out.2.1, HRD.out, HRE.out.2.2⟩
              case measure => simp [intOf]; omega
            · obtain rfl : k = P.names.length := by omega
              have hend : P.names[P.names.length]? = none := List.getElem?_eq_none (Nat.le_refl _)
              have hla := HWK.out.last_ (by have := HPL.out; omega) hend HY.out
              obtain ⟨rfl, hcode, hname⟩ := hla
              have HFA := Lib.hid (And.intro hcode hname)
              clear hcode hname hend hlt
              have y1 : wr.cell? ⟨g, 0, none⟩ = some (.int .i64 m) := RGQ.out.cell 0
              have HDO := Lib.hid (HLQ.out.done2 (F := []) (r := ⟨0, m + 1, 3, 0, at_, []⟩) ⟨HWK.out.len, bytesV.nil _ _⟩ HXB.out.1 HY.out)
              go_upto_region 22 with (first
                | (refine wpList_load_mid rfl 28 (.tmp 7) rfl d 0 rfl NA _ RDQ.out.rangeAll Tryd.underlying28 rfl HINA.out ?_)
                | (refine wpList_build_pt _ rfl 31 _ rfl X.toArray (by simp only [List.map_toArray, List.map_cons, List.map_nil]; go_simp; exact HXB.out.2) ?_)
                | (go_at_call 11; refine HDO.out.mono ?_; rintro e u2 ⟨va, Ga, rfl, n_⟩; have N2 := Lib.hid n_; clear n_; obtain ⟨Y, hY⟩ : ∃ Y, anL a va = Y := ⟨_, rfl⟩; have HYA := Lib.hid (And.intro (show Y.length = 38 by rw [← hY]; exact anL_len N2.out.2.2.2.2) (And.intro (show ∀ u ∈ Y, u.oneCell' = true by rw [← hY]; exact anL_one _ N2.out.1.one) hY)); rw [hY]; clear hY)
                | (refine wpList_alloc_to _ _ rfl 40 rfl _ HZA.out.1 (rfl : u2.alloc (.cells ZA.toArray 40) = _) ?_; have RZbz := Lib.hid (rowAt.new u2 40 ZA.toArray); have KZbz := Lib.hid ((keepBut.refl [] u2).alloc (.cells ZA.toArray 40)); obtain ⟨bz, hd_⟩ : ∃ d, u2.heap.size = d := ⟨_, rfl⟩; have HDbz := Lib.hid hd_; rw [hd_] at RZbz ⊢; generalize u2.alloc (.cells ZA.toArray 40) = u3 at *; clear hd_)
                | (refine wpList_store_mid rfl 40 (.tmp 15) (.tmp 119) rfl bz 0 Y.toArray rfl rfl (RZbz.out.there (by simp only [List.size_toArray]; rw [HYA.out.1, HZA.out.2]; omega)) (by rw [List.size_toArray, HYA.out.1]; exact info_an) (all_oneCell_toArray HYA.out.2.1) ?_))
              have r_ := RZbz.out.setL (vs := Y) (o := 0)
              rw [putL_all (by simp only [List.size_toArray]; rw [HYA.out.1, HZA.out.2])] at r_
              have k_ := (keepBut.refl [bz] u3).setL (vs := Y) (g := bz) (o := 0) (.inl (by simp))
              try simp only [List.toList_toArray]
              generalize u3.setCells bz 0 Y = u4 at *
              have k24 : keepBut [] u2 u4 := KZbz.out.then k_ (fun y hy => by simp at hy; subst hy; right; have := HDbz.out; omega)
              have Rbz := Lib.hid r_
              clear k_ r_
              have K24 := Lib.hid k24
              have RD4 := Lib.hid (k24.row (N2.out.2.2.2.1.row RDQ.out (by simp)) (by simp))
              have HLz := Lib.hid (N2.out.2.2.1.over k24)
              have rr := Rbz.out
              rw [← HYA.out.2.2] at rr
              have q2 : u4.cell? ⟨bz, 2, none⟩ = some (.int .i64 1) := (rr.cell 2).trans (by rw [← HFA.out.1]; rfl)
              have HR5 : Hid (u4.rangeAt bz 5 NA) := Lib.hid (rr.range (fun i u hu => anL_name a va i u (by rw [HFA.out.2, HNA.out.2.2]; exact hu)))
              have HEQ : Hid ((binOp .eql 28 (.agg NA.toArray) (.agg NA.toArray)).run Tryd.prog u4 = .ok (.bool true) u4) := Lib.hid (by rw [← HNA.out.2.2]; have := name_eql at_ at_ HWK.out.len HWK.out.len u4; rw [decide_eq_true rfl] at this; exact this)
              have HWO := Lib.hid (works_any u4 HLz.out.sizes)
              clear rr y1 k24 HDO
              go_wp2_with (first
                | (refine wpList_load_mid_g 28 (.tmp 129) rfl bz 5 rfl NA _ HR5.out Tryd.underlying28 rfl HINA.out rfl ?_)
                | (refine wpList_load_mid_g 28 (.tmp 7) rfl d 0 rfl NA _ RD4.out.rangeAll Tryd.underlying28 rfl HINA.out rfl ?_)
                | (refine wpList_bin_agg_g _ .eql 28 28 (.tmp 130) (.tmp 131) rfl guardName NA.toArray NA.toArray rfl rfl _ HEQ.out ?_ ?_; · rfl)
                | (go_at_call 6; refine HWO.out.mono ?_; rintro e wz ⟨rfl, kz⟩; have KZz := Lib.hid kz; clear kz))
              go_ret
              exact ⟨rfl, HLz.out.kept.then KZz.out (by simp)⟩))
end Go.Proofs.YtmlmhnhilemjhaaDoor
