/-
  RCJ: RC23, RC24, RC25, joined.
-/
import Derived.Test.YtcnlnkkdcofphaaDoorRCI
section
namespace Go.Proofs.YtcnlnkkdcofphaaDoor
open Go.RowKit
set_option linter.unusedVariables false
set_option maxRecDepth 100000
set_option linter.unusedSimpArgs false

theorem pkZ_fits : pkZero.fits := ⟨by simp [pkZero, rqZero], by simp [pkZero, anZero], by simp [pkZero, cfZero], by simp [pkZero], by simp [pkZero], by simp [pkZero]⟩
set_option maxHeartbeats 16000000 in
theorem step_take_no {w0 w : World} {p m : Nat} {L : List PK} {c : Nat} (h : nets [] w0 w p m L c) (hL : L.length ≤ 200) (hc : c ≤ 200) (hfl : fieldsAt w0) {F : List Nat} {d : ND} {X : List Value} (hd : ndV w0 F d X) (hF : ∀ y ∈ F, y < w0.heap.size) (hk : d.kind % 8 = 4) (hr : ¬ (0 ≤ d.at L.length ∧ d.at L.length < L.length)) :
    Calls Tryd.prog 10 #[.pointer (some ⟨p, 0, none⟩), .pointer (some ⟨m, 0, none⟩), .agg (ndL d X).toArray] w (netsPost w0 p m L c) := by
  obtain ⟨vN, TN, FN, vM, TM, FM, hb, hlN, hlM⟩ := h.is
  have hok := h.ok
  have hX87 : X.length = 87 := hd.v.len
  have hYl : (ndL d X).length = 90 := ndL_len hX87
  have x0 : (ndL d X).toArray[0]? = some (.int .i64 d.kind) := rfl
  have x1 : (ndL d X).toArray[1]? = some (.int .i64 d.n) := rfl
  have x2 : (ndL d X).toArray[2]? = some (.bool d.raw) := rfl
  have xr : ∀ j v, X[j]? = some v → (ndL d X).toArray[3 + j]? = some v := fun j v hv => by
    rw [List.getElem?_toArray, ndL, show 3 + j = j + 1 + 1 + 1 by omega]; simpa using hv
  obtain ⟨Y, hY⟩ : ∃ Y, ndL d X = Y := ⟨_, rfl⟩
  rw [hY] at x0 x1 x2 xr hYl ⊢
  have k1 := (keepBut.refl [] w).alloc (.cells Y.toArray 42)
  have r1 := rowAt.new w 42 Y.toArray
  obtain ⟨w1, hw1⟩ : ∃ w1, w.alloc (.cells Y.toArray 42) = w1 := ⟨_, rfl⟩
  rw [hw1] at k1 r1
  obtain ⟨b, hbb⟩ : ∃ b, w.heap.size = b := ⟨_, rfl⟩
  rw [hbb] at r1
  have y0 : w1.cell? ⟨b, 0, none⟩ = some (.int .i64 d.kind) := (r1.cell 0).trans x0
  have y1 : w1.cell? ⟨b, 1, none⟩ = some (.int .i64 d.n) := (r1.cell 1).trans x1
  have y2 : w1.cell? ⟨b, 2, none⟩ = some (.bool d.raw) := (r1.cell 2).trans x2
  obtain ⟨raw, hraw⟩ : ∃ r, d.raw = r := ⟨_, rfl⟩
  rw [hraw] at y2
  obtain ⟨n, hn⟩ : ∃ n, L.length = n := ⟨_, rfl⟩
  obtain ⟨AM, kM, rfl, _⟩ := hb.r.form
  have z0 : w1.cell? ⟨m, 0, none⟩ = some (.slice AM TM.length kM) := (hb.over k1).r.row.cell 0
  have hTM : TM.length = n := by rw [map_len hlM, hn]
  have hTN : TN.length = n := by rw [map_len hlN, hn]
  rw [hTM] at z0
  obtain ⟨I, hI⟩ : ∃ I, d.at n = I := ⟨_, rfl⟩
  have HI := Lib.hid (show I = if raw then d.n else d.n % ((n : Int) + 1) by rw [← hI, ← hraw]; rfl)
  have HBK := Lib.hid (fun W => bring_any d.kind 8 hd.k.1 hd.k.2 (by decide) (by decide) W)
  rw [hk] at HBK
  have HB := Lib.hid (And.intro (hb.over k1) (And.intro hlN (And.intro hlM (And.intro hok (And.intro hTN (And.intro hTM (And.intro hL (And.intro hc hn))))))))
  have HW := Lib.hid hw1
  have HD := Lib.hid (And.intro hd (And.intro hF (And.intro r1 (And.intro k1 (And.intro hYl (And.intro xr hfl))))))
  have HR := Lib.hid (show ¬ (0 ≤ I ∧ I < (n : Int)) by rw [hn, hI] at hr; exact hr)
  clear hr
  have hn200 : n ≤ 200 := by omega
  have hdn := hd.i
  unfold i64P at hdn
  clear h hb hlN hlM hok hX87 hY x0 x1 x2 xr k1 r1 hw1 hraw hn hTM hTN hI hd hF hYl hL hc hfl hk
  have hsum : IntKind.i64.wrap ((n : Int) + 1) = (n : Int) + 1 := by rw [IntKind.wrap_i64]; omega
  go_enter Tryd.func10, Tryd.ntmps10
  go_upto_if 26 with (with_reducible refine wpList_box_to _ _ rfl 42 (.tmp 2) rfl _ rfl HW.out ?_; try simp only [hbb])
  go_cut [7] (fun v7 wx => v7 = .int .i64 I ∧ keepBut [] w1 wx)
  case first =>
    cases raw with
    | true =>
      go_wp2_with fail
      go_meet
      case rel => exact ⟨by rw [HI.out]; rfl, keepBut.refl _ _⟩
    | false =>
      go_upto_region 3 with fail
      go_quiet ((go_at_call 13; (with_reducible refine (bring_any d.n ((n : Int) + 1) hdn.1 hdn.2 (by omega) (by omega) _).mono ?_); rintro e w' ⟨rfl, rfl⟩; exact ⟨rfl, _, rfl⟩))
      go_wp2_with fail
      go_meet
      case rel => exact ⟨by rw [HI.out]; rfl, (keepBut.refl _ _).drewN _⟩
  case rest =>
    obtain ⟨rfl, kc⟩ := hcut
    have y0 : wc.cell? ⟨b, 0, none⟩ = some (.int .i64 d.kind) := (kc.cell (p := ⟨b, 0, none⟩) HD.out.2.2.1.lt (by simp)).trans y0
    have HBC := Lib.hid (HB.out.1.over kc)
    have HDC := Lib.hid (And.intro (kc.row HD.out.2.2.1 (by simp)) (HD.out.2.2.2.1.then kc (by simp)))
    clear kc y1 y2 z0 hsum hdn HW
    have NNH := Lib.hid (show ¬ (0 ≤ I ∧ I < (TN.length : Int)) by rw [HB.out.2.2.2.2.1]; exact HR.out)
    have NMH := Lib.hid (show ¬ (0 ≤ I ∧ I < (TM.length : Int)) by rw [HB.out.2.2.2.2.2.1]; exact HR.out)
    obtain ⟨Z, hZl, hZ, hZb, hZi⟩ := zeroP
    have HZ := Lib.hid (And.intro hZ hZl)
    clear hZl hZ hZb hZi
    go_upto_region 7 with (first
      | (go_at_call 13; (with_reducible refine (HBK.out _).mono ?_); rintro e w' ⟨rfl, rfl⟩)
      | (go_at_call 27; (with_reducible refine (takeN_no p vN TN FN c I _ HBC.out.n NNH.out).mono ?_); rintro e w3 ⟨X3, rfl, i3, k3⟩; have H3 := Lib.hid (HBC.out.over k3); have I3 := Lib.hid i3; have HT3 := Lib.hid (there_newP (w := w3) (t := 40) (Z := Z) (X := X3) (by rw [I3.out.len]; exact HZ.out.2.symm)); have ST3 := Lib.hid (storedP (w := w3) (t := 40) (Z := Z) (X := X3) (by rw [I3.out.len]; exact HZ.out.2.symm)); obtain ⟨q3, hq3⟩ : ∃ q, w3.heap.size = q := ⟨_, rfl⟩; rw [hq3] at HT3 ST3; have HQ3 := Lib.hid hq3; clear i3 k3 y0)
      | (with_reducible refine wpList_alloc_to _ _ rfl 40 rfl _ HZ.out.1 rfl ?_)
      | (simp only [hq3]; refine wpList_store_mid rfl 40 (.tmp 8) (.tmp 45) rfl q3 0 X3.toArray rfl rfl HT3.out (by rw [List.size_toArray, I3.out.len]; exact info_pk) (all_oneCell_toArray I3.out.one) ?_))
    try simp only [hq3]
    obtain ⟨w4, hw4⟩ : ∃ W, (w3.alloc (.cells Z.toArray 40)).setCells q3 0 X3 = W := ⟨_, rfl⟩
    rw [hw4] at ST3 ⊢
    have H4 := Lib.hid (H3.out.over ST3.out.2)
    clear hw4 hq3
    go_upto_region 8 with (first
      | (go_at_call 30; (with_reducible refine (takeM_no m _ TM FM c I _ H4.out.r NMH.out).mono ?_); rintro e w5 ⟨X5, rfl, i5, k5⟩; have H5 := Lib.hid (H4.out.over k5); have I5 := Lib.hid i5; have K5 := Lib.hid k5; have HT5 := Lib.hid (there_newP (w := w5) (t := 40) (Z := Z) (X := X5) (by rw [I5.out.len]; exact HZ.out.2.symm)); have ST5 := Lib.hid (storedP (w := w5) (t := 40) (Z := Z) (X := X5) (by rw [I5.out.len]; exact HZ.out.2.symm)); obtain ⟨q5, hq5⟩ : ∃ q, w5.heap.size = q := ⟨_, rfl⟩; rw [hq5] at HT5 ST5; have HQ5 := Lib.hid hq5; clear i5 k5)
      | (with_reducible refine wpList_alloc_to _ _ rfl 40 rfl _ HZ.out.1 rfl ?_)
      | (simp only [hq5]; refine wpList_store_mid rfl 40 (.tmp 10) (.tmp 51) rfl q5 0 X5.toArray rfl rfl HT5.out (by rw [List.size_toArray, I5.out.len]; exact info_pk) (all_oneCell_toArray I5.out.one) ?_))
    try simp only [hq5]
    obtain ⟨w6, hw6⟩ : ∃ W, (w5.alloc (.cells Z.toArray 40)).setCells q5 0 X5 = W := ⟨_, rfl⟩
    rw [hw6] at ST5 ⊢
    have H6 := Lib.hid (H5.out.over ST5.out.2)
    clear hw6 hq5
    have RA := Lib.hid (show rowAt w6 q3 40 X3.toArray from ST5.out.2.row (K5.out.row ST3.out.1 (by simp)) (by simp))
    have HS := Lib.hid (sameDX [] [] pkZero pkZero X3 X5 w6 (((I3.out.keep ST3.out.2 (by simp)).keep K5.out (by simp)).keep ST5.out.2 (by simp)) (I5.out.keep ST5.out.2 (by simp)) pkZ_fits pkZ_fits)
    rw [PK.same_self] at HS
    have HIA := Lib.hid (show (Tryd.prog.info? 40).map (·.size) = some (X3).length by rw [I3.out.len]; exact info_pk)
    have HIB := Lib.hid (show (Tryd.prog.info? 40).map (·.size) = some (X5).length by rw [I5.out.len]; exact info_pk)
    go_wp2_with (first
      | (refine wpList_load_mid rfl 40 (.tmp 8) rfl q3 0 rfl X3 _ RA.out.rangeAll Tryd.underlying40 rfl HIA.out ?_)
      | (refine wpList_load_mid rfl 40 (.tmp 10) rfl q5 0 rfl X5 _ ST5.out.1.rangeAll Tryd.underlying40 rfl HIB.out ?_)
      | (go_at_call 18; (with_reducible refine HS.out.mono ?_); rintro e w7 ⟨rfl, k7⟩; have H7 := Lib.hid (H6.out.over k7); clear k7))
    go_ret
    exact ⟨L, c, rfl, ⟨⟨_, _, _, _, _, _, H7.out, HB.out.2.1, HB.out.2.2.1⟩, HB.out.2.2.2.1⟩, by omega, by omega⟩
set_option maxHeartbeats 16000000 in
theorem step_take {w0 w : World} {p m : Nat} {L : List PK} {c : Nat} (h : nets [] w0 w p m L c) (hL : L.length ≤ 200) (hc : c ≤ 200) (hfl : fieldsAt w0) {F : List Nat} {d : ND} {X : List Value} (hd : ndV w0 F d X) (hF : ∀ y ∈ F, y < w0.heap.size) (hk : d.kind % 8 = 4) (hr : 0 ≤ d.at L.length ∧ d.at L.length < L.length) :
    Calls Tryd.prog 10 #[.pointer (some ⟨p, 0, none⟩), .pointer (some ⟨m, 0, none⟩), .agg (ndL d X).toArray] w (netsPost w0 p m L c) := by
  obtain ⟨vN, TN, FN, vM, TM, FM, hb, hlN, hlM⟩ := h.is
  have hok := h.ok
  have hX87 : X.length = 87 := hd.v.len
  have hYl : (ndL d X).length = 90 := ndL_len hX87
  have x0 : (ndL d X).toArray[0]? = some (.int .i64 d.kind) := rfl
  have x1 : (ndL d X).toArray[1]? = some (.int .i64 d.n) := rfl
  have x2 : (ndL d X).toArray[2]? = some (.bool d.raw) := rfl
  have xr : ∀ j v, X[j]? = some v → (ndL d X).toArray[3 + j]? = some v := fun j v hv => by
    rw [List.getElem?_toArray, ndL, show 3 + j = j + 1 + 1 + 1 by omega]; simpa using hv
  obtain ⟨Y, hY⟩ : ∃ Y, ndL d X = Y := ⟨_, rfl⟩
  rw [hY] at x0 x1 x2 xr hYl ⊢
  have k1 := (keepBut.refl [] w).alloc (.cells Y.toArray 42)
  have r1 := rowAt.new w 42 Y.toArray
  obtain ⟨w1, hw1⟩ : ∃ w1, w.alloc (.cells Y.toArray 42) = w1 := ⟨_, rfl⟩
  rw [hw1] at k1 r1
  obtain ⟨b, hbb⟩ : ∃ b, w.heap.size = b := ⟨_, rfl⟩
  rw [hbb] at r1
  have y0 : w1.cell? ⟨b, 0, none⟩ = some (.int .i64 d.kind) := (r1.cell 0).trans x0
  have y1 : w1.cell? ⟨b, 1, none⟩ = some (.int .i64 d.n) := (r1.cell 1).trans x1
  have y2 : w1.cell? ⟨b, 2, none⟩ = some (.bool d.raw) := (r1.cell 2).trans x2
  obtain ⟨raw, hraw⟩ : ∃ r, d.raw = r := ⟨_, rfl⟩
  rw [hraw] at y2
  obtain ⟨n, hn⟩ : ∃ n, L.length = n := ⟨_, rfl⟩
  obtain ⟨AM, kM, rfl, _⟩ := hb.r.form
  have z0 : w1.cell? ⟨m, 0, none⟩ = some (.slice AM TM.length kM) := (hb.over k1).r.row.cell 0
  have hTM : TM.length = n := by rw [map_len hlM, hn]
  have hTN : TN.length = n := by rw [map_len hlN, hn]
  rw [hTM] at z0
  obtain ⟨I, hI⟩ : ∃ I, d.at n = I := ⟨_, rfl⟩
  have HI := Lib.hid (show I = if raw then d.n else d.n % ((n : Int) + 1) by rw [← hI, ← hraw]; rfl)
  have HBK := Lib.hid (fun W => bring_any d.kind 8 hd.k.1 hd.k.2 (by decide) (by decide) W)
  rw [hk] at HBK
  have HB := Lib.hid (And.intro (hb.over k1) (And.intro hlN (And.intro hlM (And.intro hok (And.intro hTN (And.intro hTM (And.intro hL (And.intro hc hn))))))))
  have HW := Lib.hid hw1
  have HD := Lib.hid (And.intro hd (And.intro hF (And.intro r1 (And.intro k1 (And.intro hYl (And.intro xr hfl))))))
  obtain ⟨i, hi⟩ : ∃ i : Nat, I = (i : Int) := ⟨I.toNat, by rw [hn, hI] at hr; omega⟩
  subst hi
  have hin : i < n := by rw [hn, hI] at hr; omega
  obtain ⟨k, hLk⟩ : ∃ k, L[i]? = some k := ⟨_, List.getElem?_eq_getElem (by rw [hn]; omega)⟩
  obtain ⟨tN, htN, htNk⟩ := map_at hlN hLk
  obtain ⟨tM, htM, htMk⟩ := map_at hlM hLk
  have HK := Lib.hid (And.intro htN (And.intro htNk (And.intro htM (And.intro htMk (And.intro (hok k (List.mem_of_getElem? hLk)) (And.intro hin hLk))))))
  clear htN htNk htM htMk hLk hr
  have hn200 : n ≤ 200 := by omega
  have hdn := hd.i
  unfold i64P at hdn
  clear h hb hlN hlM hok hX87 hY x0 x1 x2 xr k1 r1 hw1 hraw hn hTM hTN hI hd hF hYl hL hc hfl hk
  have hsum : IntKind.i64.wrap ((n : Int) + 1) = (n : Int) + 1 := by rw [IntKind.wrap_i64]; omega
  go_enter Tryd.func10, Tryd.ntmps10
  go_upto_if 26 with (with_reducible refine wpList_box_to _ _ rfl 42 (.tmp 2) rfl _ rfl HW.out ?_; try simp only [hbb])
  go_cut [7] (fun v7 wx => v7 = .int .i64 (i : Int) ∧ keepBut [] w1 wx)
  case first =>
    cases raw with
    | true =>
      go_wp2_with fail
      go_meet
      case rel => exact ⟨by rw [HI.out]; rfl, keepBut.refl _ _⟩
    | false =>
      go_upto_region 3 with fail
      go_quiet ((go_at_call 13; (with_reducible refine (bring_any d.n ((n : Int) + 1) hdn.1 hdn.2 (by omega) (by omega) _).mono ?_); rintro e w' ⟨rfl, rfl⟩; exact ⟨rfl, _, rfl⟩))
      go_wp2_with fail
      go_meet
      case rel => exact ⟨by rw [HI.out]; rfl, (keepBut.refl _ _).drewN _⟩
  case rest =>
    obtain ⟨rfl, kc⟩ := hcut
    have y0 : wc.cell? ⟨b, 0, none⟩ = some (.int .i64 d.kind) := (kc.cell (p := ⟨b, 0, none⟩) HD.out.2.2.1.lt (by simp)).trans y0
    have HBC := Lib.hid (HB.out.1.over kc)
    have HDC := Lib.hid (And.intro (kc.row HD.out.2.2.1 (by simp)) (HD.out.2.2.2.1.then kc (by simp)))
    clear kc y1 y2 z0 hsum hdn HW
    have HF := Lib.hid (show tN.1.fits ∧ tM.1.fits ∧ tM.1.ok = true by rw [HK.out.2.1, HK.out.2.2.2.1]; exact ⟨PK.ok_fits HK.out.2.2.2.2.1, PK.ok_fits HK.out.2.2.2.2.1, HK.out.2.2.2.2.1⟩)
    have HSZ := Lib.hid (show TN.length ≤ 200 ∧ TM.length ≤ 200 ∧ TN.length < 2000 ∧ TM.length < 2000 ∧ TN.length ≤ 100000 ∧ TM.length ≤ 100000 ∧ c < 1000000 by have a := HB.out.2.2.2.2.1; have b := HB.out.2.2.2.2.2.1; have cc := HB.out.2.2.2.2.2.2.2.1; omega)
    obtain ⟨Z, hZl, hZ, hZb, hZi⟩ := zeroP
    have HZ := Lib.hid (And.intro hZ hZl)
    clear hZl hZ hZb hZi
    go_upto_region 7 with (first
      | (go_at_call 13; (with_reducible refine (HBK.out _).mono ?_); rintro e w' ⟨rfl, rfl⟩)
      | (go_at_call 27; (with_reducible refine (takeN_any p vN TN FN c i tN _ HBC.out.n HK.out.1 HSZ.out.2.2.2.2.1).mono ?_); rintro e w3 ⟨v3, rfl, n3, k3, h3⟩; have H3 := Lib.hid (HBC.out.net n3 k3 (fun x hx => .inl (h3 x hx)) (fun y hy => .inl hy)); have I3 := Lib.hid (show itemV w3 FN (tN.1, tN.2) from (HBC.out.n.its tN (List.mem_of_getElem? HK.out.1)).keep k3 (fun y hy hm => by rcases List.mem_cons.1 hm with hm | hm; exact (HBC.out.n.far y hy).2.1 hm; exact (HBC.out.n.far y hy).2.2 hm)); have HT3 := Lib.hid (there_newP (w := w3) (t := 40) (Z := Z) (X := tN.2) (by rw [I3.out.len]; exact HZ.out.2.symm)); have ST3 := Lib.hid (storedP (w := w3) (t := 40) (Z := Z) (X := tN.2) (by rw [I3.out.len]; exact HZ.out.2.symm)); obtain ⟨q3, hq3⟩ : ∃ q, w3.heap.size = q := ⟨_, rfl⟩; rw [hq3] at HT3 ST3; have HQ3 := Lib.hid hq3; clear n3 k3 h3 y0)
      | (with_reducible refine wpList_alloc_to _ _ rfl 40 rfl _ HZ.out.1 rfl ?_)
      | (simp only [hq3]; refine wpList_store_mid rfl 40 (.tmp 8) (.tmp 45) rfl q3 0 tN.2.toArray rfl rfl HT3.out (by rw [List.size_toArray, I3.out.len]; exact info_pk) (all_oneCell_toArray I3.out.one) ?_))
    try simp only [hq3]
    obtain ⟨w4, hw4⟩ : ∃ W, (w3.alloc (.cells Z.toArray 40)).setCells q3 0 tN.2 = W := ⟨_, rfl⟩
    rw [hw4] at ST3 ⊢
    have H4 := Lib.hid (H3.out.over ST3.out.2)
    clear hw4 hq3
    go_upto_region 8 with (first
      | (go_at_call 30; (with_reducible refine (takeM_any m _ TM FM c i tM _ H4.out.r HK.out.2.2.1 HF.out.2.1 HSZ.out.2.2.2.2.2.1).mono ?_); rintro e w5 ⟨v5, X5, G5, rfl, i5, g5, n5, k5, h5⟩; have H5 := Lib.hid (H4.out.ref n5 (k5.more (by simp)) (fun x hx => .inr (h5 x hx)) (fun y hy => .inl hy)); have I5 := Lib.hid i5; have K5 := Lib.hid k5; have HT5 := Lib.hid (there_newP (w := w5) (t := 40) (Z := Z) (X := X5) (by rw [I5.out.len]; exact HZ.out.2.symm)); have ST5 := Lib.hid (storedP (w := w5) (t := 40) (Z := Z) (X := X5) (by rw [I5.out.len]; exact HZ.out.2.symm)); obtain ⟨q5, hq5⟩ : ∃ q, w5.heap.size = q := ⟨_, rfl⟩; rw [hq5] at HT5 ST5; have HQ5 := Lib.hid hq5; clear i5 g5 n5 k5 h5)
      | (with_reducible refine wpList_alloc_to _ _ rfl 40 rfl _ HZ.out.1 rfl ?_)
      | (simp only [hq5]; refine wpList_store_mid rfl 40 (.tmp 10) (.tmp 51) rfl q5 0 X5.toArray rfl rfl HT5.out (by rw [List.size_toArray, I5.out.len]; exact info_pk) (all_oneCell_toArray I5.out.one) ?_))
    try simp only [hq5]
    obtain ⟨w6, hw6⟩ : ∃ W, (w5.alloc (.cells Z.toArray 40)).setCells q5 0 X5 = W := ⟨_, rfl⟩
    rw [hw6] at ST5 ⊢
    have H6 := Lib.hid (H5.out.over ST5.out.2)
    clear hw6 hq5
    have RA := Lib.hid (show rowAt w6 q3 40 tN.2.toArray from ST5.out.2.row (K5.out.row ST3.out.1 (by have a := H3.out.r.row.lt; have b := HQ3.out; simp only [List.mem_singleton]; omega)) (by simp))
    have HS := Lib.hid (sameDX FN G5 tN.1 tM.1 tN.2 X5 w6 (((I3.out.keep ST3.out.2 (by simp)).keep K5.out (fun y hy hm => H3.out.d3 y hy (by simp only [List.mem_singleton] at hm; simp [hm]))).keep ST5.out.2 (by simp)) (I5.out.keep ST5.out.2 (by simp)) HF.out.1 HF.out.2.1)
    rw [show tN.1.same tM.1 = true by rw [HK.out.2.1, HK.out.2.2.2.1]; exact PK.same_self k] at HS
    have HIA := Lib.hid (show (Tryd.prog.info? 40).map (·.size) = some (tN.2).length by rw [I3.out.len]; exact info_pk)
    have HIB := Lib.hid (show (Tryd.prog.info? 40).map (·.size) = some (X5).length by rw [I5.out.len]; exact info_pk)
    go_wp2_with (first
      | (refine wpList_load_mid rfl 40 (.tmp 8) rfl q3 0 rfl tN.2 _ RA.out.rangeAll Tryd.underlying40 rfl HIA.out ?_)
      | (refine wpList_load_mid rfl 40 (.tmp 10) rfl q5 0 rfl X5 _ ST5.out.1.rangeAll Tryd.underlying40 rfl HIB.out ?_)
      | (go_at_call 18; (with_reducible refine HS.out.mono ?_); rintro e w7 ⟨rfl, k7⟩; have H7 := Lib.hid (H6.out.over k7); clear k7))
    go_ret
    exact ⟨L.eraseIdx i, c, rfl, ⟨⟨_, _, _, _, _, _, H7.out, map_erase HB.out.2.1 i, map_erase HB.out.2.2.1 i⟩, fun x hx => HB.out.2.2.2.1 x (List.mem_of_mem_eraseIdx hx)⟩, by rw [List.length_eraseIdx]; split <;> omega, by omega⟩
end Go.Proofs.YtcnlnkkdcofphaaDoor
end

section
namespace Go.Proofs.YtcnlnkkdcofphaaDoor
open Go.RowKit
set_option linter.unusedVariables false
set_option maxRecDepth 100000
set_option linter.unusedSimpArgs false

theorem turnsI.other {k k' : IntKind} (hne : k ≠ k') {w0 w : World} {A : Option Addr} {n : Nat} {G : List Nat} (h : turnsI k w0 w A n G) {a : Addr} {z : Int} (hz : w.cell? a = some (.int k' z)) (u : Int) : turnsI k w0 (w.setCell a (.int k' u)) A n G := fun hn => by
  obtain ⟨g, o, h1, h2, h3, h4, h5⟩ := h hn
  refine ⟨g, o, h1, h2, h3, by simpa using h4, fun j hj => ?_⟩
  obtain ⟨y, hy⟩ := h5 j hj
  refine ⟨y, ?_⟩
  rw [World.cell?_setCell_other w _ _ _ (fun e => ?_)]
  · exact hy
  · rw [e, hy] at hz
    injection hz with hz
    injection hz with hz
    exact hne hz
/-- the lists that a packet was given: they are turned -/
structure twoT (w0 w : World) (A : Option Addr) (n : Nat) (C : Option Addr) (k : Nat) (G : List Nat) : Prop where
  e : turnsI .u8 w0 w A n G
  c : turnsI .i64 w0 w C k G
theorem twoT.keep {S : List Nat} {w0 w w' : World} {A C : Option Addr} {n k : Nat} {G : List Nat} (h : twoT w0 w A n C k G) (hk : keepBut S w w') (hS : ∀ y ∈ G, y ∉ S) : twoT w0 w' A n C k G := ⟨h.e.keep hk hS, h.c.keep hk hS⟩
theorem newIn.lower {w0 w w' : World} {G : List Nat} (h : newIn w w' G) (k : keepBut [] w0 w) : newIn w0 w' G := fun y hy => ⟨Nat.le_trans k.size (h y hy).1, (h y hy).2⟩
/-- where a packet's lists stand -/
theorem itemV.turns {w0 w : World} {G : List Nat} {k : PK} {P : List Value} (h : itemV w G (k, P)) (hn : newIn w0 w G) :
    ∃ A n cA C j cC, P.toArray[43]? = some (.slice A n cA) ∧ P.toArray[84]? = some (.slice C j cC) ∧ n ≤ cA ∧ cA ≤ maxLen ∧ j ≤ cC ∧ cC ≤ maxLen ∧ twoT w0 w A n C j G := by
  obtain ⟨ev, av, cv, vv, bw, hP, hv⟩ := h
  dsimp only at hP hv
  have h43 := pkL_e (p := k) (ev := ev) (av := av) (cv := cv) (vv := vv) (bw := bw) hv.rn
  have h84 : (pkL k ev av cv vv bw).toArray[84]? = some cv := pkL_tail hv.rn hv.an 2 _ rfl
  obtain ⟨A, cA, rfl, a1, a2, t1⟩ := hv.re.turns hn
  obtain ⟨C, cC, rfl, b1, b2, t2⟩ := hv.cc.turns hn
  exact ⟨A, _, cA, C, _, cC, by rw [hP]; exact h43, by rw [hP]; exact h84, a1, a2, b1, b2, ⟨t1, t2⟩⟩
def tRel (w0 : World) (p m : Nat) (L : List PK) (c q : Nat) (P : List Value) (A : Option Addr) (n : Nat) (C : Option Addr) (k : Nat) (G : List Nat) (most : Nat) (v : Value) (wx : World) : Prop :=
  ∃ i : Nat, i ≤ most ∧ v = .int .i64 (i : Int) ∧ Hid (rowAt wx q 40 P.toArray ∧ nets G w0 wx p m L c ∧ twoT w0 wx A n C k G)
set_option maxHeartbeats 16000000 in
theorem step_at_no {w0 w : World} {p m : Nat} {L : List PK} {c : Nat} (h : nets [] w0 w p m L c) (hL : L.length ≤ 200) (hc : c ≤ 200) (hfl : fieldsAt w0) {F : List Nat} {d : ND} {X : List Value} (hd : ndV w0 F d X) (hF : ∀ y ∈ F, y < w0.heap.size) (hk : d.kind % 8 = 7) (hr : ¬ (0 ≤ d.at L.length ∧ d.at L.length < L.length)) :
    Calls Tryd.prog 10 #[.pointer (some ⟨p, 0, none⟩), .pointer (some ⟨m, 0, none⟩), .agg (ndL d X).toArray] w (netsPost w0 p m L c) := by
  obtain ⟨vN, TN, FN, vM, TM, FM, hb, hlN, hlM⟩ := h.is
  have hok := h.ok
  have hX87 : X.length = 87 := hd.v.len
  have hYl : (ndL d X).length = 90 := ndL_len hX87
  have x0 : (ndL d X).toArray[0]? = some (.int .i64 d.kind) := rfl
  have x1 : (ndL d X).toArray[1]? = some (.int .i64 d.n) := rfl
  have x2 : (ndL d X).toArray[2]? = some (.bool d.raw) := rfl
  have xr : ∀ j v, X[j]? = some v → (ndL d X).toArray[3 + j]? = some v := fun j v hv => by
    rw [List.getElem?_toArray, ndL, show 3 + j = j + 1 + 1 + 1 by omega]; simpa using hv
  obtain ⟨Y, hY⟩ : ∃ Y, ndL d X = Y := ⟨_, rfl⟩
  rw [hY] at x0 x1 x2 xr hYl ⊢
  have k1 := (keepBut.refl [] w).alloc (.cells Y.toArray 42)
  have r1 := rowAt.new w 42 Y.toArray
  obtain ⟨w1, hw1⟩ : ∃ w1, w.alloc (.cells Y.toArray 42) = w1 := ⟨_, rfl⟩
  rw [hw1] at k1 r1
  obtain ⟨b, hbb⟩ : ∃ b, w.heap.size = b := ⟨_, rfl⟩
  rw [hbb] at r1
  have y0 : w1.cell? ⟨b, 0, none⟩ = some (.int .i64 d.kind) := (r1.cell 0).trans x0
  have y1 : w1.cell? ⟨b, 1, none⟩ = some (.int .i64 d.n) := (r1.cell 1).trans x1
  have y2 : w1.cell? ⟨b, 2, none⟩ = some (.bool d.raw) := (r1.cell 2).trans x2
  obtain ⟨raw, hraw⟩ : ∃ r, d.raw = r := ⟨_, rfl⟩
  rw [hraw] at y2
  obtain ⟨n, hn⟩ : ∃ n, L.length = n := ⟨_, rfl⟩
  obtain ⟨AM, kM, rfl, _⟩ := hb.r.form
  have z0 : w1.cell? ⟨m, 0, none⟩ = some (.slice AM TM.length kM) := (hb.over k1).r.row.cell 0
  have hTM : TM.length = n := by rw [map_len hlM, hn]
  have hTN : TN.length = n := by rw [map_len hlN, hn]
  rw [hTM] at z0
  obtain ⟨I, hI⟩ : ∃ I, d.at n = I := ⟨_, rfl⟩
  have HI := Lib.hid (show I = if raw then d.n else d.n % ((n : Int) + 1) by rw [← hI, ← hraw]; rfl)
  have HBK := Lib.hid (fun W => bring_any d.kind 8 hd.k.1 hd.k.2 (by decide) (by decide) W)
  rw [hk] at HBK
  have HB := Lib.hid (And.intro (hb.over k1) (And.intro hlN (And.intro hlM (And.intro hok (And.intro hTN (And.intro hTM (And.intro hL (And.intro hc hn))))))))
  have HW := Lib.hid hw1
  have HD := Lib.hid (And.intro hd (And.intro hF (And.intro r1 (And.intro k1 (And.intro hYl (And.intro xr hfl))))))
  have HR := Lib.hid (show ¬ (0 ≤ I ∧ I < (n : Int)) by rw [hn, hI] at hr; exact hr)
  clear hr
  have hn200 : n ≤ 200 := by omega
  have hdn := hd.i
  unfold i64P at hdn
  clear h hb hlN hlM hok hX87 hY x0 x1 x2 xr k1 r1 hw1 hraw hn hTM hTN hI hd hF hYl hL hc hfl hk
  have hsum : IntKind.i64.wrap ((n : Int) + 1) = (n : Int) + 1 := by rw [IntKind.wrap_i64]; omega
  go_enter Tryd.func10, Tryd.ntmps10
  go_upto_if 26 with (with_reducible refine wpList_box_to _ _ rfl 42 (.tmp 2) rfl _ rfl HW.out ?_; try simp only [hbb])
  go_cut [7] (fun v7 wx => v7 = .int .i64 I ∧ keepBut [] w1 wx)
  case first =>
    cases raw with
    | true =>
      go_wp2_with fail
      go_meet
      case rel => exact ⟨by rw [HI.out]; rfl, keepBut.refl _ _⟩
    | false =>
      go_upto_region 3 with fail
      go_quiet ((go_at_call 13; (with_reducible refine (bring_any d.n ((n : Int) + 1) hdn.1 hdn.2 (by omega) (by omega) _).mono ?_); rintro e w' ⟨rfl, rfl⟩; exact ⟨rfl, _, rfl⟩))
      go_wp2_with fail
      go_meet
      case rel => exact ⟨by rw [HI.out]; rfl, (keepBut.refl _ _).drewN _⟩
  case rest =>
    obtain ⟨rfl, kc⟩ := hcut
    have y0 : wc.cell? ⟨b, 0, none⟩ = some (.int .i64 d.kind) := (kc.cell (p := ⟨b, 0, none⟩) HD.out.2.2.1.lt (by simp)).trans y0
    have HBC := Lib.hid (HB.out.1.over kc)
    have HDC := Lib.hid (And.intro (kc.row HD.out.2.2.1 (by simp)) (HD.out.2.2.2.1.then kc (by simp)))
    clear kc y1 y2 z0 hsum hdn HW
    have NNH := Lib.hid (show ¬ (0 ≤ I ∧ I < (TN.length : Int)) by rw [HB.out.2.2.2.2.1]; exact HR.out)
    have NMH := Lib.hid (show ¬ (0 ≤ I ∧ I < (TM.length : Int)) by rw [HB.out.2.2.2.2.2.1]; exact HR.out)
    obtain ⟨Z, hZl, hZ, hZb, hZi⟩ := zeroP
    have HZ := Lib.hid (And.intro hZ hZl)
    clear hZl hZ hZb hZi
    go_upto_region 15 with (first
      | (go_at_call 13; (with_reducible refine (HBK.out _).mono ?_); rintro e w' ⟨rfl, rfl⟩)
      | (go_at_call 17; (with_reducible refine (atN_no p vN TN FN c I _ HBC.out.n NNH.out).mono ?_); rintro e w3 ⟨X3, rfl, i3, k3⟩; have H3 := Lib.hid (HBC.out.also k3 (G := []) (by simp [newIn])); have I3 := Lib.hid i3; have N3 := Lib.hid (show newIn w0 w3 [] by simp [newIn]); have G3 : Hid (∀ y ∈ ([] : List Nat), y < w3.heap.size) := Lib.hid (by simp); have HT3 := Lib.hid (there_newP (w := w3) (t := 40) (Z := Z) (X := X3) (by rw [I3.out.len]; exact HZ.out.2.symm)); have ST3 := Lib.hid (storedP (w := w3) (t := 40) (Z := Z) (X := X3) (by rw [I3.out.len]; exact HZ.out.2.symm)); obtain ⟨q3, hq3⟩ : ∃ q, w3.heap.size = q := ⟨_, rfl⟩; rw [hq3] at HT3 ST3; have HQ3 := Lib.hid hq3; clear i3 k3 y0)
      | (with_reducible refine wpList_alloc_to _ _ rfl 40 rfl _ HZ.out.1 rfl ?_)
      | (simp only [hq3]; refine wpList_store_mid rfl 40 (.tmp 12) (.tmp 85) rfl q3 0 X3.toArray rfl rfl HT3.out (by rw [List.size_toArray, I3.out.len]; exact info_pk) (all_oneCell_toArray I3.out.one) ?_))
    try simp only [hq3]
    obtain ⟨w4, hw4⟩ : ∃ W, (w3.alloc (.cells Z.toArray 40)).setCells q3 0 X3 = W := ⟨_, rfl⟩
    rw [hw4] at ST3 ⊢
    have H4 := Lib.hid (H3.out.over ST3.out.2)
    clear hw4 hq3
    go_upto_region 16 with (first
      | (go_at_call 33; (with_reducible refine (atM_no m _ TM FM c I _ H4.out.r NMH.out).mono ?_); rintro e w5 ⟨X5, rfl, i5, k5⟩; have H5 := Lib.hid (H4.out.over k5); have I5 := Lib.hid i5; have K5 := Lib.hid k5; have HT5 := Lib.hid (there_newP (w := w5) (t := 40) (Z := Z) (X := X5) (by rw [I5.out.len]; exact HZ.out.2.symm)); have ST5 := Lib.hid (storedP (w := w5) (t := 40) (Z := Z) (X := X5) (by rw [I5.out.len]; exact HZ.out.2.symm)); obtain ⟨q5, hq5⟩ : ∃ q, w5.heap.size = q := ⟨_, rfl⟩; rw [hq5] at HT5 ST5; have HQ5 := Lib.hid hq5; clear i5 k5)
      | (with_reducible refine wpList_alloc_to _ _ rfl 40 rfl _ HZ.out.1 rfl ?_)
      | (simp only [hq5]; refine wpList_store_mid rfl 40 (.tmp 14) (.tmp 91) rfl q5 0 X5.toArray rfl rfl HT5.out (by rw [List.size_toArray, I5.out.len]; exact info_pk) (all_oneCell_toArray I5.out.one) ?_))
    try simp only [hq5]
    obtain ⟨w6, hw6⟩ : ∃ W, (w5.alloc (.cells Z.toArray 40)).setCells q5 0 X5 = W := ⟨_, rfl⟩
    rw [hw6] at ST5 ⊢
    have H6 := Lib.hid (H5.out.over ST5.out.2)
    clear hw6 hq5
    have RA := Lib.hid (show rowAt w6 q3 40 X3.toArray from ST5.out.2.row (K5.out.row ST3.out.1 (by simp)) (by simp))
    have J3 := Lib.hid (((I3.out.keep ST3.out.2 (by simp)).keep K5.out (by simp)).keep ST5.out.2 (by simp))
    have HS := Lib.hid (sameDX [] [] pkZero pkZero X3 X5 w6 J3.out (I5.out.keep ST5.out.2 (by simp)) pkZ_fits pkZ_fits)
    rw [PK.same_self] at HS
    have HIA := Lib.hid (show (Tryd.prog.info? 40).map (·.size) = some (X3).length by rw [I3.out.len]; exact info_pk)
    have HIB := Lib.hid (show (Tryd.prog.info? 40).map (·.size) = some (X5).length by rw [I5.out.len]; exact info_pk)
    go_upto_region 18 with (first
      | (refine wpList_load_mid rfl 40 (.tmp 12) rfl q3 0 rfl X3 _ RA.out.rangeAll Tryd.underlying40 rfl HIA.out ?_)
      | (refine wpList_load_mid rfl 40 (.tmp 14) rfl q5 0 rfl X5 _ ST5.out.1.rangeAll Tryd.underlying40 rfl HIB.out ?_)
      | (go_at_call 18; (with_reducible refine HS.out.mono ?_); rintro e w7 ⟨rfl, k7⟩; have H7 := Lib.hid (H6.out.over k7); have R7 := Lib.hid (k7.row RA.out (by simp)); have J7 := Lib.hid (J3.out.keep k7 (by simp)); have S7 := Lib.hid (show w3.heap.size ≤ w7.heap.size from Nat.le_trans ST3.out.2.size (Nat.le_trans K5.out.size (Nat.le_trans ST5.out.2.size k7.size))); clear k7))
    obtain ⟨A, ne, cA, C, nc, cC, e43, e84, b1, b2, b3, b4, tt⟩ := J7.out.turns (w0 := w0) (fun y hy => ⟨(N3.out y hy).1, Nat.lt_of_lt_of_le (G3.out y hy) S7.out⟩)
    obtain ⟨GG, hGG⟩ : ∃ G : List Nat, [] = G := ⟨_, rfl⟩
    have HS0 : Hid (rowAt w7 q3 40 X3.toArray ∧ nets GG w0 w7 p m L c ∧ twoT w0 w7 A ne C nc GG) := Lib.hid ⟨R7.out, ⟨⟨_, _, _, _, _, _, (by rw [← hGG]; exact H7.out.less (by simp)), HB.out.2.1, HB.out.2.2.1⟩, HB.out.2.2.2.1⟩, (by rw [← hGG]; exact tt)⟩
    have HP := Lib.hid (show X3.toArray[43]? = some (.slice A ne cA) ∧ X3.toArray[84]? = some (.slice C nc cC) ∧ True ∧ True ∧ True ∧ True ∧ (∀ y ∈ GG, y < q3) from ⟨e43, e84, trivial, trivial, trivial, trivial, fun y hy => by rw [← hGG] at hy; have := G3.out y hy; have := HQ3.out; omega⟩)
    have hneM : ne ≤ 9223372036854775807 := by unfold maxLen at b2; omega
    have hncM : nc ≤ 9223372036854775807 := by unfold maxLen at b4; omega
    clear e43 e84 b1 b2 b3 b4 tt hGG
    go_upto_region 19 with fail
    go_loopw [16] (fun vv wx => tRel w0 p m L c q3 X3 A ne C nc GG ne vv wx) (fun vv _ => ne - (intOf vv).toNat)
    case atStart => exact ⟨0, Nat.zero_le _, rfl, HS0⟩
    case round =>
      obtain ⟨i0, hil, rfl, HI⟩ := hrel
      have a43 : wr.cell? ⟨q3, 43, none⟩ = some (.slice A ne cA) := (HI.out.1.cell 43).trans HP.out.1
      by_cases hlt : i0 < ne
      · obtain ⟨g, o, rfl, hg1, hg2, hg3, hg4⟩ := HI.out.2.2.e (by omega)
        obtain ⟨z, hz⟩ := hg4 i0 hlt
        have hfr := HI.out.2.1.kept.free (k := g) hg2 (o + i0)
        have hi2 : (i0 : Int) < (ne : Int) := by omega
        have hi0 : (0 : Int) ≤ (i0 : Int) := by omega
        have hwi : IntKind.i64.wrap ((i0 : Int) + 1) = (i0 : Int) + 1 := by rw [IntKind.wrap_i64]; omega
        have HG := Lib.hid (And.intro hg1 (And.intro hg2 hg3))
        clear hg1 hg2 hg3 hg4
        go_upto_region 21 with fail
        go_region
        have kk := ((keepBut.refl GG wr).setCell ⟨g, o + i0, none⟩ (.int .u8 (bits BinOp.xor IntKind.u8 z 1)) (.inl HG.out.1)).drew
        have r' := kk.row HI.out.1 (fun hm => by have := HP.out.2.2.2.2.2.2 _ hm; omega)
        have t' : twoT w0 (wr.setCell ⟨g, o + i0, none⟩ (.int .u8 (bits BinOp.xor IntKind.u8 z 1))).drew (some ⟨g, o, none⟩) ne C nc GG := ⟨(HI.out.2.2.e.set hlt).drew, (HI.out.2.2.c.other (by decide) hz _).drew⟩
        have n' := HI.out.2.1.keep kk (fun x hx => hx)
        generalize (wr.setCell ⟨g, o + i0, none⟩ (.int .u8 (bits BinOp.xor IntKind.u8 z 1))).drew = wx at kk r' t' n' ⊢
        have HN := Lib.hid (And.intro r' (And.intro n' t'))
        clear kk r' t' n' hz hfr a43
        go_wp2_with fail
        go_roundw
        case rel => exact ⟨i0 + 1, by omega, by go_num, HN⟩
        case measure => simp only [intOf]; omega
      · have hie : ¬ (i0 : Int) < (ne : Int) := by omega
        go_upto_region 23 with fail
        clear a43
        go_loopw [17] (fun vv wx => tRel w0 p m L c q3 X3 A ne C nc GG nc vv wx) (fun vv _ => nc - (intOf vv).toNat)
        case atStart => exact ⟨0, Nat.zero_le _, rfl, HI⟩
        case round =>
          obtain ⟨j0, hjl, rfl, HJ⟩ := hrel
          have a84 : wr.cell? ⟨q3, 84, none⟩ = some (.slice C nc cC) := (HJ.out.1.cell 84).trans HP.out.2.1
          by_cases hltj : j0 < nc
          · obtain ⟨g, o, rfl, hg1, hg2, hg3, hg4⟩ := HJ.out.2.2.c (by omega)
            obtain ⟨z, hz⟩ := hg4 j0 hltj
            have hfr := HJ.out.2.1.kept.free (k := g) hg2 (o + j0)
            have hi2 : (j0 : Int) < (nc : Int) := by omega
            have hi0 : (0 : Int) ≤ (j0 : Int) := by omega
            have hwi : IntKind.i64.wrap ((j0 : Int) + 1) = (j0 : Int) + 1 := by rw [IntKind.wrap_i64]; omega
            have kk := (keepBut.refl GG wr).setCell ⟨g, o + j0, none⟩ (.int .i64 (-1)) (.inl hg1)
            have HN := Lib.hid (show rowAt (wr.setCell ⟨g, o + j0, none⟩ (.int .i64 (-1))) q3 40 X3.toArray ∧ nets GG w0 (wr.setCell ⟨g, o + j0, none⟩ (.int .i64 (-1))) p m L c ∧ twoT w0 (wr.setCell ⟨g, o + j0, none⟩ (.int .i64 (-1))) A ne (some ⟨g, o, none⟩) nc GG from ⟨kk.row HJ.out.1 (fun hm => by have := HP.out.2.2.2.2.2.2 _ hm; omega), HJ.out.2.1.keep kk (fun x hx => hx), ⟨HJ.out.2.2.e.other (by decide) hz _, HJ.out.2.2.c.set hltj⟩⟩)
            clear hg1 hg2 hg3 hg4 kk hie hlt
            go_wp2_with fail
            go_roundw
            case rel => exact ⟨j0 + 1, by omega, by go_num, HN⟩
            case measure => simp only [intOf]; omega
          · have hje : ¬ (j0 : Int) < (nc : Int) := by omega
            go_wp2_with fail
            go_ret
            exact ⟨L, c, rfl, HJ.out.2.1.less (by simp), by omega, by omega⟩
set_option maxHeartbeats 16000000 in
theorem step_at {w0 w : World} {p m : Nat} {L : List PK} {c : Nat} (h : nets [] w0 w p m L c) (hL : L.length ≤ 200) (hc : c ≤ 200) (hfl : fieldsAt w0) {F : List Nat} {d : ND} {X : List Value} (hd : ndV w0 F d X) (hF : ∀ y ∈ F, y < w0.heap.size) (hk : d.kind % 8 = 7) (hr : 0 ≤ d.at L.length ∧ d.at L.length < L.length) :
    Calls Tryd.prog 10 #[.pointer (some ⟨p, 0, none⟩), .pointer (some ⟨m, 0, none⟩), .agg (ndL d X).toArray] w (netsPost w0 p m L c) := by
  obtain ⟨vN, TN, FN, vM, TM, FM, hb, hlN, hlM⟩ := h.is
  have hok := h.ok
  have hX87 : X.length = 87 := hd.v.len
  have hYl : (ndL d X).length = 90 := ndL_len hX87
  have x0 : (ndL d X).toArray[0]? = some (.int .i64 d.kind) := rfl
  have x1 : (ndL d X).toArray[1]? = some (.int .i64 d.n) := rfl
  have x2 : (ndL d X).toArray[2]? = some (.bool d.raw) := rfl
  have xr : ∀ j v, X[j]? = some v → (ndL d X).toArray[3 + j]? = some v := fun j v hv => by
    rw [List.getElem?_toArray, ndL, show 3 + j = j + 1 + 1 + 1 by omega]; simpa using hv
  obtain ⟨Y, hY⟩ : ∃ Y, ndL d X = Y := ⟨_, rfl⟩
  rw [hY] at x0 x1 x2 xr hYl ⊢
  have k1 := (keepBut.refl [] w).alloc (.cells Y.toArray 42)
  have r1 := rowAt.new w 42 Y.toArray
  obtain ⟨w1, hw1⟩ : ∃ w1, w.alloc (.cells Y.toArray 42) = w1 := ⟨_, rfl⟩
  rw [hw1] at k1 r1
  obtain ⟨b, hbb⟩ : ∃ b, w.heap.size = b := ⟨_, rfl⟩
  rw [hbb] at r1
  have y0 : w1.cell? ⟨b, 0, none⟩ = some (.int .i64 d.kind) := (r1.cell 0).trans x0
  have y1 : w1.cell? ⟨b, 1, none⟩ = some (.int .i64 d.n) := (r1.cell 1).trans x1
  have y2 : w1.cell? ⟨b, 2, none⟩ = some (.bool d.raw) := (r1.cell 2).trans x2
  obtain ⟨raw, hraw⟩ : ∃ r, d.raw = r := ⟨_, rfl⟩
  rw [hraw] at y2
  obtain ⟨n, hn⟩ : ∃ n, L.length = n := ⟨_, rfl⟩
  obtain ⟨AM, kM, rfl, _⟩ := hb.r.form
  have z0 : w1.cell? ⟨m, 0, none⟩ = some (.slice AM TM.length kM) := (hb.over k1).r.row.cell 0
  have hTM : TM.length = n := by rw [map_len hlM, hn]
  have hTN : TN.length = n := by rw [map_len hlN, hn]
  rw [hTM] at z0
  obtain ⟨I, hI⟩ : ∃ I, d.at n = I := ⟨_, rfl⟩
  have HI := Lib.hid (show I = if raw then d.n else d.n % ((n : Int) + 1) by rw [← hI, ← hraw]; rfl)
  have HBK := Lib.hid (fun W => bring_any d.kind 8 hd.k.1 hd.k.2 (by decide) (by decide) W)
  rw [hk] at HBK
  have HB := Lib.hid (And.intro (hb.over k1) (And.intro hlN (And.intro hlM (And.intro hok (And.intro hTN (And.intro hTM (And.intro hL (And.intro hc hn))))))))
  have HW := Lib.hid hw1
  have HD := Lib.hid (And.intro hd (And.intro hF (And.intro r1 (And.intro k1 (And.intro hYl (And.intro xr hfl))))))
  obtain ⟨i, hi⟩ : ∃ i : Nat, I = (i : Int) := ⟨I.toNat, by rw [hn, hI] at hr; omega⟩
  subst hi
  have hin : i < n := by rw [hn, hI] at hr; omega
  obtain ⟨k, hLk⟩ : ∃ k, L[i]? = some k := ⟨_, List.getElem?_eq_getElem (by rw [hn]; omega)⟩
  obtain ⟨tN, htN, htNk⟩ := map_at hlN hLk
  obtain ⟨tM, htM, htMk⟩ := map_at hlM hLk
  have HK := Lib.hid (And.intro htN (And.intro htNk (And.intro htM (And.intro htMk (And.intro (hok k (List.mem_of_getElem? hLk)) (And.intro hin hLk))))))
  clear htN htNk htM htMk hLk hr
  have hn200 : n ≤ 200 := by omega
  have hdn := hd.i
  unfold i64P at hdn
  clear h hb hlN hlM hok hX87 hY x0 x1 x2 xr k1 r1 hw1 hraw hn hTM hTN hI hd hF hYl hL hc hfl hk
  have hsum : IntKind.i64.wrap ((n : Int) + 1) = (n : Int) + 1 := by rw [IntKind.wrap_i64]; omega
  go_enter Tryd.func10, Tryd.ntmps10
  go_upto_if 26 with (with_reducible refine wpList_box_to _ _ rfl 42 (.tmp 2) rfl _ rfl HW.out ?_; try simp only [hbb])
  go_cut [7] (fun v7 wx => v7 = .int .i64 (i : Int) ∧ keepBut [] w1 wx)
  case first =>
    cases raw with
    | true =>
      go_wp2_with fail
      go_meet
      case rel => exact ⟨by rw [HI.out]; rfl, keepBut.refl _ _⟩
    | false =>
      go_upto_region 3 with fail
      go_quiet ((go_at_call 13; (with_reducible refine (bring_any d.n ((n : Int) + 1) hdn.1 hdn.2 (by omega) (by omega) _).mono ?_); rintro e w' ⟨rfl, rfl⟩; exact ⟨rfl, _, rfl⟩))
      go_wp2_with fail
      go_meet
      case rel => exact ⟨by rw [HI.out]; rfl, (keepBut.refl _ _).drewN _⟩
  case rest =>
    obtain ⟨rfl, kc⟩ := hcut
    have y0 : wc.cell? ⟨b, 0, none⟩ = some (.int .i64 d.kind) := (kc.cell (p := ⟨b, 0, none⟩) HD.out.2.2.1.lt (by simp)).trans y0
    have HBC := Lib.hid (HB.out.1.over kc)
    have HDC := Lib.hid (And.intro (kc.row HD.out.2.2.1 (by simp)) (HD.out.2.2.2.1.then kc (by simp)))
    clear kc y1 y2 z0 hsum hdn HW
    have HF := Lib.hid (show tN.1.fits ∧ tM.1.fits ∧ tM.1.ok = true by rw [HK.out.2.1, HK.out.2.2.2.1]; exact ⟨PK.ok_fits HK.out.2.2.2.2.1, PK.ok_fits HK.out.2.2.2.2.1, HK.out.2.2.2.2.1⟩)
    have HSZ := Lib.hid (show TN.length ≤ 200 ∧ TM.length ≤ 200 ∧ TN.length < 2000 ∧ TM.length < 2000 ∧ TN.length ≤ 100000 ∧ TM.length ≤ 100000 ∧ c < 1000000 by have a := HB.out.2.2.2.2.1; have b := HB.out.2.2.2.2.2.1; have cc := HB.out.2.2.2.2.2.2.2.1; omega)
    obtain ⟨Z, hZl, hZ, hZb, hZi⟩ := zeroP
    have HZ := Lib.hid (And.intro hZ hZl)
    clear hZl hZ hZb hZi
    go_upto_region 15 with (first
      | (go_at_call 13; (with_reducible refine (HBK.out _).mono ?_); rintro e w' ⟨rfl, rfl⟩)
      | (go_at_call 17; (with_reducible refine (atN_any p vN TN FN c i tN _ HBC.out.n HK.out.1 HF.out.1).mono ?_); rintro e w3 ⟨X3, GG, rfl, i3, g3, k3⟩; have H3 := Lib.hid (HBC.out.also k3 g3); have I3 := Lib.hid i3; have N3 := Lib.hid (g3.lower HBC.out.kept); have G3 : Hid (∀ y ∈ GG, y < w3.heap.size) := Lib.hid (fun y hy => (g3 y hy).2); have HT3 := Lib.hid (there_newP (w := w3) (t := 40) (Z := Z) (X := X3) (by rw [I3.out.len]; exact HZ.out.2.symm)); have ST3 := Lib.hid (storedP (w := w3) (t := 40) (Z := Z) (X := X3) (by rw [I3.out.len]; exact HZ.out.2.symm)); obtain ⟨q3, hq3⟩ : ∃ q, w3.heap.size = q := ⟨_, rfl⟩; rw [hq3] at HT3 ST3; have HQ3 := Lib.hid hq3; clear i3 g3 k3 y0)
      | (with_reducible refine wpList_alloc_to _ _ rfl 40 rfl _ HZ.out.1 rfl ?_)
      | (simp only [hq3]; refine wpList_store_mid rfl 40 (.tmp 12) (.tmp 85) rfl q3 0 X3.toArray rfl rfl HT3.out (by rw [List.size_toArray, I3.out.len]; exact info_pk) (all_oneCell_toArray I3.out.one) ?_))
    try simp only [hq3]
    obtain ⟨w4, hw4⟩ : ∃ W, (w3.alloc (.cells Z.toArray 40)).setCells q3 0 X3 = W := ⟨_, rfl⟩
    rw [hw4] at ST3 ⊢
    have H4 := Lib.hid (H3.out.over ST3.out.2)
    clear hw4 hq3
    go_upto_region 16 with (first
      | (go_at_call 33; (with_reducible refine (atM_any m _ TM FM c i tM _ H4.out.r HK.out.2.2.1 HF.out.2.1).mono ?_); rintro e w5 ⟨X5, G5, rfl, i5, g5, k5⟩; have H5 := Lib.hid (H4.out.over k5); have I5 := Lib.hid i5; have K5 := Lib.hid k5; have HT5 := Lib.hid (there_newP (w := w5) (t := 40) (Z := Z) (X := X5) (by rw [I5.out.len]; exact HZ.out.2.symm)); have ST5 := Lib.hid (storedP (w := w5) (t := 40) (Z := Z) (X := X5) (by rw [I5.out.len]; exact HZ.out.2.symm)); obtain ⟨q5, hq5⟩ : ∃ q, w5.heap.size = q := ⟨_, rfl⟩; rw [hq5] at HT5 ST5; have HQ5 := Lib.hid hq5; clear i5 g5 k5)
      | (with_reducible refine wpList_alloc_to _ _ rfl 40 rfl _ HZ.out.1 rfl ?_)
      | (simp only [hq5]; refine wpList_store_mid rfl 40 (.tmp 14) (.tmp 91) rfl q5 0 X5.toArray rfl rfl HT5.out (by rw [List.size_toArray, I5.out.len]; exact info_pk) (all_oneCell_toArray I5.out.one) ?_))
    try simp only [hq5]
    obtain ⟨w6, hw6⟩ : ∃ W, (w5.alloc (.cells Z.toArray 40)).setCells q5 0 X5 = W := ⟨_, rfl⟩
    rw [hw6] at ST5 ⊢
    have H6 := Lib.hid (H5.out.over ST5.out.2)
    clear hw6 hq5
    have RA := Lib.hid (show rowAt w6 q3 40 X3.toArray from ST5.out.2.row (K5.out.row ST3.out.1 (by simp)) (by simp))
    have J3 := Lib.hid (((I3.out.keep ST3.out.2 (by simp)).keep K5.out (by simp)).keep ST5.out.2 (by simp))
    have HS := Lib.hid (sameDX GG G5 tN.1 tM.1 X3 X5 w6 J3.out (I5.out.keep ST5.out.2 (by simp)) HF.out.1 HF.out.2.1)
    rw [show tN.1.same tM.1 = true by rw [HK.out.2.1, HK.out.2.2.2.1]; exact PK.same_self k] at HS
    have HIA := Lib.hid (show (Tryd.prog.info? 40).map (·.size) = some (X3).length by rw [I3.out.len]; exact info_pk)
    have HIB := Lib.hid (show (Tryd.prog.info? 40).map (·.size) = some (X5).length by rw [I5.out.len]; exact info_pk)
    go_upto_region 18 with (first
      | (refine wpList_load_mid rfl 40 (.tmp 12) rfl q3 0 rfl X3 _ RA.out.rangeAll Tryd.underlying40 rfl HIA.out ?_)
      | (refine wpList_load_mid rfl 40 (.tmp 14) rfl q5 0 rfl X5 _ ST5.out.1.rangeAll Tryd.underlying40 rfl HIB.out ?_)
      | (go_at_call 18; (with_reducible refine HS.out.mono ?_); rintro e w7 ⟨rfl, k7⟩; have H7 := Lib.hid (H6.out.over k7); have R7 := Lib.hid (k7.row RA.out (by simp)); have J7 := Lib.hid (J3.out.keep k7 (by simp)); have S7 := Lib.hid (show w3.heap.size ≤ w7.heap.size from Nat.le_trans ST3.out.2.size (Nat.le_trans K5.out.size (Nat.le_trans ST5.out.2.size k7.size))); clear k7))
    obtain ⟨A, ne, cA, C, nc, cC, e43, e84, b1, b2, b3, b4, tt⟩ := J7.out.turns (w0 := w0) (fun y hy => ⟨(N3.out y hy).1, Nat.lt_of_lt_of_le (G3.out y hy) S7.out⟩)
    obtain ⟨GG, hGG⟩ : ∃ G : List Nat, ([] ++ GG) = G := ⟨_, rfl⟩
    have HS0 : Hid (rowAt w7 q3 40 X3.toArray ∧ nets GG w0 w7 p m L c ∧ twoT w0 w7 A ne C nc GG) := Lib.hid ⟨R7.out, ⟨⟨_, _, _, _, _, _, (by rw [← hGG]; exact H7.out), HB.out.2.1, HB.out.2.2.1⟩, HB.out.2.2.2.1⟩, (by rw [← hGG]; exact tt)⟩
    have HP := Lib.hid (show X3.toArray[43]? = some (.slice A ne cA) ∧ X3.toArray[84]? = some (.slice C nc cC) ∧ True ∧ True ∧ True ∧ True ∧ (∀ y ∈ GG, y < q3) from ⟨e43, e84, trivial, trivial, trivial, trivial, fun y hy => by rw [← hGG] at hy; have := G3.out y hy; have := HQ3.out; omega⟩)
    have hneM : ne ≤ 9223372036854775807 := by unfold maxLen at b2; omega
    have hncM : nc ≤ 9223372036854775807 := by unfold maxLen at b4; omega
    clear e43 e84 b1 b2 b3 b4 tt hGG
    go_upto_region 19 with fail
    go_loopw [16] (fun vv wx => tRel w0 p m L c q3 X3 A ne C nc GG ne vv wx) (fun vv _ => ne - (intOf vv).toNat)
    case atStart => exact ⟨0, Nat.zero_le _, rfl, HS0⟩
    case round =>
      obtain ⟨i0, hil, rfl, HI⟩ := hrel
      have a43 : wr.cell? ⟨q3, 43, none⟩ = some (.slice A ne cA) := (HI.out.1.cell 43).trans HP.out.1
      by_cases hlt : i0 < ne
      · obtain ⟨g, o, rfl, hg1, hg2, hg3, hg4⟩ := HI.out.2.2.e (by omega)
        obtain ⟨z, hz⟩ := hg4 i0 hlt
        have hfr := HI.out.2.1.kept.free (k := g) hg2 (o + i0)
        have hi2 : (i0 : Int) < (ne : Int) := by omega
        have hi0 : (0 : Int) ≤ (i0 : Int) := by omega
        have hwi : IntKind.i64.wrap ((i0 : Int) + 1) = (i0 : Int) + 1 := by rw [IntKind.wrap_i64]; omega
        have HG := Lib.hid (And.intro hg1 (And.intro hg2 hg3))
        clear hg1 hg2 hg3 hg4
        go_upto_region 21 with fail
        go_region
        have kk := ((keepBut.refl GG wr).setCell ⟨g, o + i0, none⟩ (.int .u8 (bits BinOp.xor IntKind.u8 z 1)) (.inl HG.out.1)).drew
        have r' := kk.row HI.out.1 (fun hm => by have := HP.out.2.2.2.2.2.2 _ hm; omega)
        have t' : twoT w0 (wr.setCell ⟨g, o + i0, none⟩ (.int .u8 (bits BinOp.xor IntKind.u8 z 1))).drew (some ⟨g, o, none⟩) ne C nc GG := ⟨(HI.out.2.2.e.set hlt).drew, (HI.out.2.2.c.other (by decide) hz _).drew⟩
        have n' := HI.out.2.1.keep kk (fun x hx => hx)
        generalize (wr.setCell ⟨g, o + i0, none⟩ (.int .u8 (bits BinOp.xor IntKind.u8 z 1))).drew = wx at kk r' t' n' ⊢
        have HN := Lib.hid (And.intro r' (And.intro n' t'))
        clear kk r' t' n' hz hfr a43
        go_wp2_with fail
        go_roundw
        case rel => exact ⟨i0 + 1, by omega, by go_num, HN⟩
        case measure => simp only [intOf]; omega
      · have hie : ¬ (i0 : Int) < (ne : Int) := by omega
        go_upto_region 23 with fail
        clear a43
        go_loopw [17] (fun vv wx => tRel w0 p m L c q3 X3 A ne C nc GG nc vv wx) (fun vv _ => nc - (intOf vv).toNat)
        case atStart => exact ⟨0, Nat.zero_le _, rfl, HI⟩
        case round =>
          obtain ⟨j0, hjl, rfl, HJ⟩ := hrel
          have a84 : wr.cell? ⟨q3, 84, none⟩ = some (.slice C nc cC) := (HJ.out.1.cell 84).trans HP.out.2.1
          by_cases hltj : j0 < nc
          · obtain ⟨g, o, rfl, hg1, hg2, hg3, hg4⟩ := HJ.out.2.2.c (by omega)
            obtain ⟨z, hz⟩ := hg4 j0 hltj
            have hfr := HJ.out.2.1.kept.free (k := g) hg2 (o + j0)
            have hi2 : (j0 : Int) < (nc : Int) := by omega
            have hi0 : (0 : Int) ≤ (j0 : Int) := by omega
            have hwi : IntKind.i64.wrap ((j0 : Int) + 1) = (j0 : Int) + 1 := by rw [IntKind.wrap_i64]; omega
            have kk := (keepBut.refl GG wr).setCell ⟨g, o + j0, none⟩ (.int .i64 (-1)) (.inl hg1)
            have HN := Lib.hid (show rowAt (wr.setCell ⟨g, o + j0, none⟩ (.int .i64 (-1))) q3 40 X3.toArray ∧ nets GG w0 (wr.setCell ⟨g, o + j0, none⟩ (.int .i64 (-1))) p m L c ∧ twoT w0 (wr.setCell ⟨g, o + j0, none⟩ (.int .i64 (-1))) A ne (some ⟨g, o, none⟩) nc GG from ⟨kk.row HJ.out.1 (fun hm => by have := HP.out.2.2.2.2.2.2 _ hm; omega), HJ.out.2.1.keep kk (fun x hx => hx), ⟨HJ.out.2.2.e.other (by decide) hz _, HJ.out.2.2.c.set hltj⟩⟩)
            clear hg1 hg2 hg3 hg4 kk hie hlt
            go_wp2_with fail
            go_roundw
            case rel => exact ⟨j0 + 1, by omega, by go_num, HN⟩
            case measure => simp only [intOf]; omega
          · have hje : ¬ (j0 : Int) < (nc : Int) := by omega
            go_wp2_with fail
            go_ret
            exact ⟨L, c, rfl, HJ.out.2.1.less (by simp), by omega, by omega⟩
end Go.Proofs.YtcnlnkkdcofphaaDoor
end

section
namespace Go.Proofs.YtcnlnkkdcofphaaDoor
open Go.RowKit
set_option linter.unusedVariables false
set_option maxRecDepth 100000
set_option linter.unusedSimpArgs false

set_option maxHeartbeats 4000000 in
theorem putN_no (p : Nat) (v : Value) (T : List (PK × List Value)) (F : List Nat) (c : Nat) (F0 : List Nat) (pk : PK) (X : List Value) (w : World) (h : isN w p v T F c) (ht : itemV w F0 (pk, X)) (hfl : fieldsAt w) (hb1 : i64P pk.frm) (hb2 : i64P pk.dst) (hok : pk.ok = false) :
    Calls Tryd.prog 25 #[.pointer (some ⟨p, 0, none⟩), .agg X.toArray] w fun e w' => e = .returned (.int .i64 2) ∧ keepBut [] w w' := by
  have k1 := (keepBut.refl [] w).alloc (.cells X.toArray 40)
  have r1 := rowAt.new w 40 X.toArray
  obtain ⟨w1, hw1⟩ : ∃ w1, w.alloc (.cells X.toArray 40) = w1 := ⟨_, rfl⟩
  rw [hw1] at k1 r1
  have HI := Lib.hid (show (Tryd.prog.info? 40).map (·.size) = some X.length by rw [ht.len]; exact info_pk)
  have HT := Lib.hid (ht.keep k1 (by simp))
  have HW := Lib.hid hw1
  have HN := Lib.hid (h.over k1)
  have R1 := Lib.hid r1
  have K1 := Lib.hid k1
  have HB := Lib.hid (And.intro (hfl.keep k1 (by simp)) (And.intro hb1 (And.intro hb2 hok)))
  clear h ht hfl hb1 hb2 hok k1 r1 hw1
  go_enter Tryd.func25, Tryd.ntmps25
  go_wp2_with (first
    | (with_reducible refine wpList_box_to _ _ rfl 40 (.tmp 1) rfl _ rfl HW.out ?_)
    | (go_at_call 36; refine (noneN_any _ _ _ _ _ _ HN.out).mono ?_; rintro e w' ⟨rfl, rfl⟩)
    | (refine wpList_load_mid_g 40 (.tmp 3) rfl w.heap.size 0 rfl X _ R1.out.rangeAll Tryd.underlying40 rfl HI.out rfl ?_)
    | (go_at_call 44; refine (checkX_any F0 pk X _ HT.out HB.out.1 HB.out.2.1 HB.out.2.2.1).mono ?_; rintro e w2 ⟨rfl, k2⟩; rw [show toldP pk.ok = 2 by rw [HB.out.2.2.2]; rfl]; have K2 := Lib.hid k2; clear k2))
  go_ret
  exact ⟨rfl, K1.out.then K2.out (by simp)⟩
set_option maxHeartbeats 16000000 in
theorem step_put_no {w0 w : World} {p m : Nat} {L : List PK} {c : Nat} (h : nets [] w0 w p m L c) (hL : L.length ≤ 200) (hc : c ≤ 200) (hfl : fieldsAt w0) {F : List Nat} {d : ND} {X : List Value} (hd : ndV w0 F d X) (hF : ∀ y ∈ F, y < w0.heap.size) (hk : d.kind % 8 < 4) {pk : PK} (hpe : d.p.cutL = pk) (hokk : pk.ok = false) :
    Calls Tryd.prog 10 #[.pointer (some ⟨p, 0, none⟩), .pointer (some ⟨m, 0, none⟩), .agg (ndL d X).toArray] w (netsPost w0 p m L c) := by
  obtain ⟨vN, TN, FN, vM, TM, FM, hb, hlN, hlM⟩ := h.is
  have hok := h.ok
  have hX87 : X.length = 87 := hd.v.len
  have hYl : (ndL d X).length = 90 := ndL_len hX87
  have x0 : (ndL d X).toArray[0]? = some (.int .i64 d.kind) := rfl
  have x1 : (ndL d X).toArray[1]? = some (.int .i64 d.n) := rfl
  have x2 : (ndL d X).toArray[2]? = some (.bool d.raw) := rfl
  have xr : ∀ j v, X[j]? = some v → (ndL d X).toArray[3 + j]? = some v := fun j v hv => by
    rw [List.getElem?_toArray, ndL, show 3 + j = j + 1 + 1 + 1 by omega]; simpa using hv
  obtain ⟨Y, hY⟩ : ∃ Y, ndL d X = Y := ⟨_, rfl⟩
  rw [hY] at x0 x1 x2 xr hYl ⊢
  have k1 := (keepBut.refl [] w).alloc (.cells Y.toArray 42)
  have r1 := rowAt.new w 42 Y.toArray
  obtain ⟨w1, hw1⟩ : ∃ w1, w.alloc (.cells Y.toArray 42) = w1 := ⟨_, rfl⟩
  rw [hw1] at k1 r1
  obtain ⟨b, hbb⟩ : ∃ b, w.heap.size = b := ⟨_, rfl⟩
  rw [hbb] at r1
  have y0 : w1.cell? ⟨b, 0, none⟩ = some (.int .i64 d.kind) := (r1.cell 0).trans x0
  have y1 : w1.cell? ⟨b, 1, none⟩ = some (.int .i64 d.n) := (r1.cell 1).trans x1
  have y2 : w1.cell? ⟨b, 2, none⟩ = some (.bool d.raw) := (r1.cell 2).trans x2
  obtain ⟨raw, hraw⟩ : ∃ r, d.raw = r := ⟨_, rfl⟩
  rw [hraw] at y2
  obtain ⟨n, hn⟩ : ∃ n, L.length = n := ⟨_, rfl⟩
  obtain ⟨AM, kM, rfl, _⟩ := hb.r.form
  have z0 : w1.cell? ⟨m, 0, none⟩ = some (.slice AM TM.length kM) := (hb.over k1).r.row.cell 0
  have hTM : TM.length = n := by rw [map_len hlM, hn]
  have hTN : TN.length = n := by rw [map_len hlN, hn]
  rw [hTM] at z0
  obtain ⟨I, hI⟩ : ∃ I, d.at n = I := ⟨_, rfl⟩
  have HI := Lib.hid (show I = if raw then d.n else d.n % ((n : Int) + 1) by rw [← hI, ← hraw]; rfl)
  obtain ⟨kk, hkk⟩ : ∃ k, d.kind % 8 = k := ⟨_, rfl⟩
  have HBK := Lib.hid (fun W => bring_any d.kind 8 hd.k.1 hd.k.2 (by decide) (by decide) W)
  rw [hkk] at HBK hk
  have hk0 : 0 ≤ kk := by have := Int.emod_nonneg d.kind (show (8 : Int) ≠ 0 by decide); omega
  have g4 : (kk == 4) = false := by simp; omega
  have g5 : (kk == 5) = false := by simp; omega
  have g6 : (kk == 6) = false := by simp; omega
  have g7 : (kk == 7) = false := by simp; omega
  have HB := Lib.hid (And.intro (hb.over k1) (And.intro hlN (And.intro hlM (And.intro hok (And.intro hTN (And.intro hTM (And.intro hL (And.intro hc hn))))))))
  have HW := Lib.hid hw1
  have HD := Lib.hid (And.intro hd (And.intro hF (And.intro r1 (And.intro k1 (And.intro hYl (And.intro xr hfl))))))
  have HLT := Lib.hid (show ∀ x, allB p m vN (.slice AM TM.length kM) FN FM x → x < b from fun x hx => by have := hb.lt hx; omega)
  have hn200 : n ≤ 200 := by omega
  have hdn := hd.i
  unfold i64P at hdn
  clear h hb hlN hlM hok hX87 hY x0 x1 x2 xr k1 r1 hw1 hraw hn hTM hTN hI hd hF hYl hL hc hfl hk hkk hk0
  have hsum : IntKind.i64.wrap ((n : Int) + 1) = (n : Int) + 1 := by rw [IntKind.wrap_i64]; omega
  go_enter Tryd.func10, Tryd.ntmps10
  go_upto_if 26 with (with_reducible refine wpList_box_to _ _ rfl 42 (.tmp 2) rfl _ rfl HW.out ?_; try simp only [hbb])
  go_cut [7] (fun v7 wx => v7 = .int .i64 I ∧ keepBut [] w1 wx)
  case first =>
    cases raw with
    | true =>
      go_wp2_with fail
      go_meet
      case rel => exact ⟨by rw [HI.out]; rfl, keepBut.refl _ _⟩
    | false =>
      go_upto_region 3 with fail
      go_quiet ((go_at_call 13; (with_reducible refine (bring_any d.n ((n : Int) + 1) hdn.1 hdn.2 (by omega) (by omega) _).mono ?_); rintro e w' ⟨rfl, rfl⟩; exact ⟨rfl, _, rfl⟩))
      go_wp2_with fail
      go_meet
      case rel => exact ⟨by rw [HI.out]; rfl, (keepBut.refl _ _).drewN _⟩
  case rest =>
    obtain ⟨rfl, kc⟩ := hcut
    have y0 : wc.cell? ⟨b, 0, none⟩ = some (.int .i64 d.kind) := (kc.cell (p := ⟨b, 0, none⟩) HD.out.2.2.1.lt (by simp)).trans y0
    have HBC := Lib.hid (HB.out.1.over kc)
    have HDC := Lib.hid (And.intro (kc.row HD.out.2.2.1 (by simp)) (HD.out.2.2.2.1.then kc (by simp)))
    clear kc y1 y2 z0 hsum hdn HW
    obtain ⟨Z, hZl, hZ, hZb, hZi⟩ := zeroP
    have HZ := Lib.hid (And.intro hZ hZl)
    clear hZl hZ hZb hZi
    have HPE := Lib.hid hpe
    have HOK := Lib.hid hokk
    have HPK := Lib.hid (show pk.fits ∧ i64P pk.frm ∧ i64P pk.dst ∧ pk.ok = false from (by rw [← HPE.out]; exact ⟨PK.cutL_fits HD.out.1.f, HD.out.1.e1, HD.out.1.e2, by rw [HPE.out]; exact HOK.out⟩))
    have HSZ := Lib.hid (show TN.length < 2000 ∧ TM.length < 2000 ∧ c < 1000000 by have a := HB.out.2.2.2.2.1; have b := HB.out.2.2.2.2.2.1; have cc := HB.out.2.2.2.2.2.2.2.1; omega)
    have HFL := Lib.hid HD.out.2.2.2.2.2.2
    have HRX := Lib.hid (show ∀ W, rowAt W b 42 Y.toArray → W.rangeAt b 3 X from fun W hW => hW.range HD.out.2.2.2.2.2.1)
    have HIX := Lib.hid (show (Tryd.prog.info? 40).map (·.size) = some X.length by rw [HD.out.1.v.len]; exact info_pk)
    clear hpe hokk
    go_upto_region 28 with (first
      | (go_at_call 13; (with_reducible refine (HBK.out _).mono ?_); rintro e w' ⟨rfl, rfl⟩)
      | (refine wpList_load_mid rfl 40 (.tmp 135) rfl b 3 rfl X _ (HRX.out _ HDC.out.1) Tryd.underlying40 rfl HIX.out ?_)
      | (go_at_call 34; (with_reducible refine (cutN_any F d.p X _ (HD.out.1.v.keep HBC.out.kept (by simp)) HD.out.1.f).mono ?_); rintro e w3 ⟨Xi, GG, rfl, i3, g3, k3⟩; rw [HPE.out] at i3; have I3 := Lib.hid i3; have N3 := Lib.hid g3; have K3 := Lib.hid k3; have hth := there_newP (w := w3) (t := 40) (Z := Z) (X := Xi) (by rw [I3.out.len]; exact HZ.out.2.symm); have hst := storedP (w := w3) (t := 40) (Z := Z) (X := Xi) (by rw [I3.out.len]; exact HZ.out.2.symm); obtain ⟨q8, hq8⟩ : ∃ q, w3.heap.size = q := ⟨_, rfl⟩; rw [hq8] at hth hst; have HT3 := Lib.hid hth; have ST3 := Lib.hid hst; have HQ := Lib.hid hq8; clear i3 g3 k3 hth hst y0)
      | (with_reducible refine wpList_alloc_to _ _ rfl 40 rfl _ HZ.out.1 rfl ?_)
      | (simp only [hq8]; refine wpList_store_mid rfl 40 (.tmp 18) (.tmp 137) rfl q8 0 Xi.toArray rfl rfl HT3.out (by rw [List.size_toArray, I3.out.len]; exact info_pk) (all_oneCell_toArray I3.out.one) ?_))
    try simp only [hq8]
    obtain ⟨w4, hw4⟩ : ∃ W, (w3.alloc (.cells Z.toArray 40)).setCells q8 0 Xi = W := ⟨_, rfl⟩
    rw [hw4] at ST3 ⊢
    have HQ8 := Lib.hid (show b < q8 by have a := K3.out.size; have e1 := HDC.out.1.lt; have e2 := HQ.out; omega)
    have HGQ := Lib.hid (show ∀ y ∈ GG, y < q8 from fun y hy => by have a := (N3.out y hy).2; have e2 := HQ.out; omega)
    have HH0 := Lib.hid (show bN0 ([] ++ GG) w0 w4 p m vN TN FN c (.slice AM TM.length kM) TM FM c ∧ itemV w4 GG (pk, Xi) ∧ (fun W => rowAt W q8 40 Xi.toArray ∧ rowAt W b 42 Y.toArray) w4 from ⟨(HBC.out.also K3.out N3.out).over ST3.out.2, I3.out.keep ST3.out.2 (by simp), ST3.out.1, ST3.out.2.row (K3.out.row HDC.out.1 (by simp)) (by simp)⟩)
    have HH1 := Lib.hid (show bN0 GG w0 w4.drew p m vN TN FN c (.slice AM TM.length kM) TM FM c ∧ itemV w4.drew GG (pk, Xi) ∧ (fun W => rowAt W q8 40 Xi.toArray ∧ rowAt W b 42 Y.toArray) w4.drew from ⟨HH0.out.1.over (keepBut.refl [] w4).drew, HH0.out.2.1.keep (keepBut.refl [] w4).drew (by simp), (keepBut.refl [] w4).drew.row HH0.out.2.2.1 (by simp), (keepBut.refl [] w4).drew.row HH0.out.2.2.2 (by simp)⟩)
    have HII := Lib.hid (show (Tryd.prog.info? 40).map (·.size) = some Xi.length by rw [I3.out.len]; exact info_pk)
    clear hw4 hq8 HH0
    refine wp_region_held_drew (S := (fun W => rowAt W q8 40 Xi.toArray ∧ rowAt W b 42 Y.toArray)) (by kernel_rfl) HH1.out.2.2 (fun _ => ?_)
    generalize w4.drew = w10 at HH1 ⊢
    have HFG := Lib.hid (show ∀ y ∈ GG, y ∉ homes vN from fun y hy hm => (HH1.out.1.far y hy).2.2 (.inl (by simp [hm])))
    refine wpAnyH_take (i := 0) (oi := ⟨_, _, _, _, _, _⟩) (v := ?_) rfl (by kernel_rfl) (by kernel_rfl) (by kernel_rfl) (fun _ _ _ h => h) (Or.inl ⟨by rfl, ?_⟩) HH1.out.2.2 ?_
    rotate_left
    · intro w' hSw; clear hSw; (go_simp; try with_reducible rfl)
    try simp only [Act.put, List.setIfInBounds_toArray, List.set_cons_zero, List.set_cons_succ]
    refine wpAnyH_take (i := 1) (oi := ⟨_, _, _, _, _, _⟩) (v := .agg Xi.toArray) rfl (by kernel_rfl) (by kernel_rfl) (by kernel_rfl) (fun _ _ _ h => h) (yieldsIf_mid 40 (.tmp 18) rfl q8 0 rfl Xi _ (fun w' hSw => hSw.1.rangeAll) Tryd.underlying40 rfl HII.out ?_) HH1.out.2.2 ?_
    · rfl
    try simp only [Act.put, List.setIfInBounds_toArray, List.set_cons_zero, List.set_cons_succ]
    refine wpAnyH_take (i := 3) (oi := ⟨_, _, _, _, _, _⟩) (v := ?_) rfl (by kernel_rfl) (by kernel_rfl) (by kernel_rfl) (fun _ _ _ h => h) (Or.inl ⟨by rfl, ?_⟩) HH1.out.2.2 ?_
    rotate_left
    · intro w' hSw; clear hSw; (go_simp; try with_reducible rfl)
    try simp only [Act.put, List.setIfInBounds_toArray, List.set_cons_zero, List.set_cons_succ]
    refine wpAnyH_take (i := 4) (oi := ⟨_, _, _, _, _, _⟩) (v := ?_) rfl (by kernel_rfl) (by kernel_rfl) (by kernel_rfl) (fun _ _ _ h => h) (Or.inl ⟨by rfl, ?_⟩) HH1.out.2.2 ?_
    rotate_left
    · intro w' hSw; clear hSw; (go_simp; try with_reducible rfl)
    try simp only [Act.put, List.setIfInBounds_toArray, List.set_cons_zero, List.set_cons_succ]
    refine wpAnyH_take (i := 5) (oi := ⟨_, _, _, _, _, _⟩) (v := .agg X.toArray) rfl (by kernel_rfl) (by kernel_rfl) (by kernel_rfl) (fun _ _ _ h => h) (yieldsIf_mid 40 (.tmp 142) rfl b 3 rfl X _ (fun w' hSw => HRX.out _ hSw.2) Tryd.underlying40 rfl HIX.out ?_) HH1.out.2.2 ?_
    · rfl
    try simp only [Act.put, List.setIfInBounds_toArray, List.set_cons_zero, List.set_cons_succ]
    refine wpAnyH_ready (rs := [2]) (by kernel_rfl) (by simp) ?_
    refine AllReadyH.cons (o := ⟨_, _, _, _, _, _⟩) rfl (fun KK hKK => ?_) AllReadyH.nil
    go_simp
    (with_reducible refine (putN_no p vN TN FN c GG pk Xi _ HH1.out.1.n HH1.out.2.1 (HFL.out.keep HH1.out.1.kept (by simp)) HPK.out.2.1 HPK.out.2.2.1 HPK.out.2.2.2).mono ?_)
    rintro e w11 ⟨rfl, k2⟩
    have HH2 := Lib.hid (And.intro (HH1.out.1.over k2) (And.intro (HH1.out.2.1.keep k2 (by simp)) (show (fun W => rowAt W q8 40 Xi.toArray ∧ rowAt W b 42 Y.toArray) w11 from ⟨k2.row HH1.out.2.2.1 (by simp), k2.row HH1.out.2.2.2 (by simp)⟩)))
    clear k2
    go_wp2_with fail
    refine hKK.out _ _ HH2.out.2.2 (fun _ => ?_)
    clear hKK KK
    try simp only [Act.put, List.setIfInBounds_toArray, List.set_cons_zero, List.set_cons_succ]
    refine wpAnyH_ready (rs := [6]) (by kernel_rfl) (by simp) ?_
    refine AllReadyH.cons (o := ⟨_, _, _, _, _, _⟩) rfl (fun KK hKK => ?_) AllReadyH.nil
    go_simp
    (with_reducible refine (cutN_any F d.p X _ (HD.out.1.v.keep HH2.out.1.kept (by simp)) HD.out.1.f).mono ?_)
    rintro e w12 ⟨XJ, GJ, rfl, i3, g3, k3⟩
    rw [HPE.out] at i3
    have HJ3 := Lib.hid i3
    have HGJ := Lib.hid (show ∀ y ∈ GJ, b ≤ y ∧ y ∉ homes (.slice AM TM.length kM) from fun y hy => ⟨by have a := (g3 y hy).1; have e1 := HH2.out.2.2.2.lt; omega, fun hm => by have a := (g3 y hy).1; have e2 := HLT.out y (.inr (.inl (by simp [hm]))); have e1 := HH2.out.2.2.2.lt; omega⟩)
    have HH3 := Lib.hid (And.intro (HH2.out.1.over k3) (And.intro (HH2.out.2.1.keep k3 (by simp)) (show (fun W => rowAt W q8 40 Xi.toArray ∧ rowAt W b 42 Y.toArray) w12 from ⟨k3.row HH2.out.2.2.1 (by simp), k3.row HH2.out.2.2.2 (by simp)⟩)))
    clear i3 g3 k3
    go_wp2_with fail
    refine hKK.out _ _ HH3.out.2.2 (fun _ => ?_)
    clear hKK KK
    try simp only [Act.put, List.setIfInBounds_toArray, List.set_cons_zero, List.set_cons_succ]
    refine wpAnyH_ready (rs := [7]) (by kernel_rfl) (by simp) ?_
    refine AllReadyH.cons (o := ⟨_, _, _, _, _, _⟩) rfl (fun KK hKK => ?_) AllReadyH.nil
    go_simp
    (with_reducible refine (putM_no m GJ pk XJ _ HJ3.out HPK.out.1 HPK.out.2.2.2).mono ?_)
    rintro e w13 ⟨rfl, k4⟩
    have HH4 := Lib.hid (And.intro (HH3.out.1.over k4) (And.intro (HH3.out.2.1.keep k4 (by simp)) (show (fun W => rowAt W q8 40 Xi.toArray ∧ rowAt W b 42 Y.toArray) w13 from ⟨k4.row HH3.out.2.2.1 (by simp), k4.row HH3.out.2.2.2 (by simp)⟩)))
    clear k4
    go_wp2_with fail
    refine hKK.out _ _ HH4.out.2.2 (fun _ => ?_)
    clear hKK KK
    try simp only [Act.put, List.setIfInBounds_toArray, List.set_cons_zero, List.set_cons_succ]
    refine wpAnyH_take (i := 8) (oi := ⟨_, _, _, _, _, _⟩) (v := ?_) rfl (by kernel_rfl) (by kernel_rfl) (by kernel_rfl) (fun _ _ _ h => h) (Or.inl ⟨by rfl, ?_⟩) HH4.out.2.2 ?_
    rotate_left
    · intro w' hSw; clear hSw; (go_simp; try with_reducible rfl)
    try simp only [Act.put, List.setIfInBounds_toArray, List.set_cons_zero, List.set_cons_succ]
    refine wpAnyH_take (i := 9) (oi := ⟨_, _, _, _, _, _⟩) (v := ?_) rfl (by kernel_rfl) (by kernel_rfl) (by kernel_rfl) (fun _ _ _ h => h) (Or.inl ⟨by rfl, ?_⟩) HH4.out.2.2 ?_
    rotate_left
    · intro w' hSw; clear hSw; (go_simp; try with_reducible rfl)
    try simp only [Act.put, List.setIfInBounds_toArray, List.set_cons_zero, List.set_cons_succ]
    refine wpAnyH_done (by kernel_rfl) ?_ _
    obtain ⟨A, ne, cA, C, nc, cC, e43, e84, b1, b2, b3, b4, tt⟩ := HH4.out.2.1.turns (w0 := w0) (fun y hy => ⟨(HH4.out.1.far y hy).1, (HH4.out.1.far y hy).2.1⟩)
    have HS0 : Hid (rowAt w13 q8 40 Xi.toArray ∧ nets GG w0 w13 p m L c ∧ twoT w0 w13 A ne C nc GG) := Lib.hid ⟨HH4.out.2.2.1, ⟨⟨_, _, _, _, _, _, HH4.out.1, HB.out.2.1, HB.out.2.2.1⟩, HB.out.2.2.2.1⟩, tt⟩
    have HP := Lib.hid (show Xi.toArray[43]? = some (.slice A ne cA) ∧ Xi.toArray[84]? = some (.slice C nc cC) ∧ True ∧ True ∧ True ∧ True ∧ (∀ y ∈ GG, y < q8) from ⟨e43, e84, trivial, trivial, trivial, trivial, HGQ.out⟩)
    have hneM : ne ≤ 9223372036854775807 := by unfold maxLen at b2; omega
    have hncM : nc ≤ 9223372036854775807 := by unfold maxLen at b4; omega
    clear e43 e84 b1 b2 b3 b4 tt
    go_upto_region 30 with fail
    go_loopw [20] (fun vv wx => tRel w0 p m L c q8 Xi A ne C nc GG ne vv wx) (fun vv _ => ne - (intOf vv).toNat)
    case atStart => exact ⟨0, Nat.zero_le _, rfl, HS0⟩
    case round =>
      obtain ⟨i0, hil, rfl, HI⟩ := hrel
      have a43 : wr.cell? ⟨q8, 43, none⟩ = some (.slice A ne cA) := (HI.out.1.cell 43).trans HP.out.1
      by_cases hlt : i0 < ne
      · obtain ⟨g, o, rfl, hg1, hg2, hg3, hg4⟩ := HI.out.2.2.e (by omega)
        obtain ⟨z, hz⟩ := hg4 i0 hlt
        have hfr := HI.out.2.1.kept.free (k := g) hg2 (o + i0)
        have hi2 : (i0 : Int) < (ne : Int) := by omega
        have hi0 : (0 : Int) ≤ (i0 : Int) := by omega
        have hwi : IntKind.i64.wrap ((i0 : Int) + 1) = (i0 : Int) + 1 := by rw [IntKind.wrap_i64]; omega
        have HG := Lib.hid (And.intro hg1 (And.intro hg2 hg3))
        clear hg1 hg2 hg3 hg4
        go_upto_region 32 with fail
        go_region
        have kk := ((keepBut.refl GG wr).setCell ⟨g, o + i0, none⟩ (.int .u8 (bits BinOp.xor IntKind.u8 z 1)) (.inl HG.out.1)).drew
        have r' := kk.row HI.out.1 (fun hm => by have := HP.out.2.2.2.2.2.2 _ hm; omega)
        have t' : twoT w0 (wr.setCell ⟨g, o + i0, none⟩ (.int .u8 (bits BinOp.xor IntKind.u8 z 1))).drew (some ⟨g, o, none⟩) ne C nc GG := ⟨(HI.out.2.2.e.set hlt).drew, (HI.out.2.2.c.other (by decide) hz _).drew⟩
        have n' := HI.out.2.1.keep kk (fun x hx => hx)
        generalize (wr.setCell ⟨g, o + i0, none⟩ (.int .u8 (bits BinOp.xor IntKind.u8 z 1))).drew = wx at kk r' t' n' ⊢
        have HN := Lib.hid (And.intro r' (And.intro n' t'))
        clear kk r' t' n' hz hfr a43
        go_wp2_with fail
        go_roundw
        case rel => exact ⟨i0 + 1, by omega, by go_num, HN⟩
        case measure => simp only [intOf]; omega
      · have hie : ¬ (i0 : Int) < (ne : Int) := by omega
        go_upto_region 34 with fail
        clear a43
        go_loopw [21] (fun vv wx => tRel w0 p m L c q8 Xi A ne C nc GG nc vv wx) (fun vv _ => nc - (intOf vv).toNat)
        case atStart => exact ⟨0, Nat.zero_le _, rfl, HI⟩
        case round =>
          obtain ⟨j0, hjl, rfl, HJJ⟩ := hrel
          have a84 : wr.cell? ⟨q8, 84, none⟩ = some (.slice C nc cC) := (HJJ.out.1.cell 84).trans HP.out.2.1
          by_cases hltj : j0 < nc
          · obtain ⟨g, o, rfl, hg1, hg2, hg3, hg4⟩ := HJJ.out.2.2.c (by omega)
            obtain ⟨z, hz⟩ := hg4 j0 hltj
            have hfr := HJJ.out.2.1.kept.free (k := g) hg2 (o + j0)
            have hi2 : (j0 : Int) < (nc : Int) := by omega
            have hi0 : (0 : Int) ≤ (j0 : Int) := by omega
            have hwi : IntKind.i64.wrap ((j0 : Int) + 1) = (j0 : Int) + 1 := by rw [IntKind.wrap_i64]; omega
            have kk := (keepBut.refl GG wr).setCell ⟨g, o + j0, none⟩ (.int .i64 (-1)) (.inl hg1)
            have HN := Lib.hid (show rowAt (wr.setCell ⟨g, o + j0, none⟩ (.int .i64 (-1))) q8 40 Xi.toArray ∧ nets GG w0 (wr.setCell ⟨g, o + j0, none⟩ (.int .i64 (-1))) p m L c ∧ twoT w0 (wr.setCell ⟨g, o + j0, none⟩ (.int .i64 (-1))) A ne (some ⟨g, o, none⟩) nc GG from ⟨kk.row HJJ.out.1 (fun hm => by have := HP.out.2.2.2.2.2.2 _ hm; omega), HJJ.out.2.1.keep kk (fun x hx => hx), ⟨HJJ.out.2.2.e.other (by decide) hz _, HJJ.out.2.2.c.set hltj⟩⟩)
            clear hg1 hg2 hg3 hg4 kk hie hlt
            go_wp2_with fail
            go_roundw
            case rel => exact ⟨j0 + 1, by omega, by go_num, HN⟩
            case measure => simp only [intOf]; omega
          · have hje : ¬ (j0 : Int) < (nc : Int) := by omega
            go_wp2_with fail
            go_ret
            exact ⟨L, c, rfl, HJJ.out.2.1.less (by simp), by simp, by omega⟩
set_option maxHeartbeats 16000000 in
theorem step_put {w0 w : World} {p m : Nat} {L : List PK} {c : Nat} (h : nets [] w0 w p m L c) (hL : L.length ≤ 200) (hc : c ≤ 200) (hfl : fieldsAt w0) {F : List Nat} {d : ND} {X : List Value} (hd : ndV w0 F d X) (hF : ∀ y ∈ F, y < w0.heap.size) (hk : d.kind % 8 < 4) {pk : PK} (hpe : d.p.cutL = pk) (hokk : pk.ok = true) :
    Calls Tryd.prog 10 #[.pointer (some ⟨p, 0, none⟩), .pointer (some ⟨m, 0, none⟩), .agg (ndL d X).toArray] w (netsPost w0 p m L c) := by
  obtain ⟨vN, TN, FN, vM, TM, FM, hb, hlN, hlM⟩ := h.is
  have hok := h.ok
  have hX87 : X.length = 87 := hd.v.len
  have hYl : (ndL d X).length = 90 := ndL_len hX87
  have x0 : (ndL d X).toArray[0]? = some (.int .i64 d.kind) := rfl
  have x1 : (ndL d X).toArray[1]? = some (.int .i64 d.n) := rfl
  have x2 : (ndL d X).toArray[2]? = some (.bool d.raw) := rfl
  have xr : ∀ j v, X[j]? = some v → (ndL d X).toArray[3 + j]? = some v := fun j v hv => by
    rw [List.getElem?_toArray, ndL, show 3 + j = j + 1 + 1 + 1 by omega]; simpa using hv
  obtain ⟨Y, hY⟩ : ∃ Y, ndL d X = Y := ⟨_, rfl⟩
  rw [hY] at x0 x1 x2 xr hYl ⊢
  have k1 := (keepBut.refl [] w).alloc (.cells Y.toArray 42)
  have r1 := rowAt.new w 42 Y.toArray
  obtain ⟨w1, hw1⟩ : ∃ w1, w.alloc (.cells Y.toArray 42) = w1 := ⟨_, rfl⟩
  rw [hw1] at k1 r1
  obtain ⟨b, hbb⟩ : ∃ b, w.heap.size = b := ⟨_, rfl⟩
  rw [hbb] at r1
  have y0 : w1.cell? ⟨b, 0, none⟩ = some (.int .i64 d.kind) := (r1.cell 0).trans x0
  have y1 : w1.cell? ⟨b, 1, none⟩ = some (.int .i64 d.n) := (r1.cell 1).trans x1
  have y2 : w1.cell? ⟨b, 2, none⟩ = some (.bool d.raw) := (r1.cell 2).trans x2
  obtain ⟨raw, hraw⟩ : ∃ r, d.raw = r := ⟨_, rfl⟩
  rw [hraw] at y2
  obtain ⟨n, hn⟩ : ∃ n, L.length = n := ⟨_, rfl⟩
  obtain ⟨AM, kM, rfl, _⟩ := hb.r.form
  have z0 : w1.cell? ⟨m, 0, none⟩ = some (.slice AM TM.length kM) := (hb.over k1).r.row.cell 0
  have hTM : TM.length = n := by rw [map_len hlM, hn]
  have hTN : TN.length = n := by rw [map_len hlN, hn]
  rw [hTM] at z0
  obtain ⟨I, hI⟩ : ∃ I, d.at n = I := ⟨_, rfl⟩
  have HI := Lib.hid (show I = if raw then d.n else d.n % ((n : Int) + 1) by rw [← hI, ← hraw]; rfl)
  obtain ⟨kk, hkk⟩ : ∃ k, d.kind % 8 = k := ⟨_, rfl⟩
  have HBK := Lib.hid (fun W => bring_any d.kind 8 hd.k.1 hd.k.2 (by decide) (by decide) W)
  rw [hkk] at HBK hk
  have hk0 : 0 ≤ kk := by have := Int.emod_nonneg d.kind (show (8 : Int) ≠ 0 by decide); omega
  have g4 : (kk == 4) = false := by simp; omega
  have g5 : (kk == 5) = false := by simp; omega
  have g6 : (kk == 6) = false := by simp; omega
  have g7 : (kk == 7) = false := by simp; omega
  have HB := Lib.hid (And.intro (hb.over k1) (And.intro hlN (And.intro hlM (And.intro hok (And.intro hTN (And.intro hTM (And.intro hL (And.intro hc hn))))))))
  have HW := Lib.hid hw1
  have HD := Lib.hid (And.intro hd (And.intro hF (And.intro r1 (And.intro k1 (And.intro hYl (And.intro xr hfl))))))
  have HLT := Lib.hid (show ∀ x, allB p m vN (.slice AM TM.length kM) FN FM x → x < b from fun x hx => by have := hb.lt hx; omega)
  have hn200 : n ≤ 200 := by omega
  have hdn := hd.i
  unfold i64P at hdn
  clear h hb hlN hlM hok hX87 hY x0 x1 x2 xr k1 r1 hw1 hraw hn hTM hTN hI hd hF hYl hL hc hfl hk hkk hk0
  have hsum : IntKind.i64.wrap ((n : Int) + 1) = (n : Int) + 1 := by rw [IntKind.wrap_i64]; omega
  go_enter Tryd.func10, Tryd.ntmps10
  go_upto_if 26 with (with_reducible refine wpList_box_to _ _ rfl 42 (.tmp 2) rfl _ rfl HW.out ?_; try simp only [hbb])
  go_cut [7] (fun v7 wx => v7 = .int .i64 I ∧ keepBut [] w1 wx)
  case first =>
    cases raw with
    | true =>
      go_wp2_with fail
      go_meet
      case rel => exact ⟨by rw [HI.out]; rfl, keepBut.refl _ _⟩
    | false =>
      go_upto_region 3 with fail
      go_quiet ((go_at_call 13; (with_reducible refine (bring_any d.n ((n : Int) + 1) hdn.1 hdn.2 (by omega) (by omega) _).mono ?_); rintro e w' ⟨rfl, rfl⟩; exact ⟨rfl, _, rfl⟩))
      go_wp2_with fail
      go_meet
      case rel => exact ⟨by rw [HI.out]; rfl, (keepBut.refl _ _).drewN _⟩
  case rest =>
    obtain ⟨rfl, kc⟩ := hcut
    have y0 : wc.cell? ⟨b, 0, none⟩ = some (.int .i64 d.kind) := (kc.cell (p := ⟨b, 0, none⟩) HD.out.2.2.1.lt (by simp)).trans y0
    have HBC := Lib.hid (HB.out.1.over kc)
    have HDC := Lib.hid (And.intro (kc.row HD.out.2.2.1 (by simp)) (HD.out.2.2.2.1.then kc (by simp)))
    clear kc y1 y2 z0 hsum hdn HW
    obtain ⟨Z, hZl, hZ, hZb, hZi⟩ := zeroP
    have HZ := Lib.hid (And.intro hZ hZl)
    clear hZl hZ hZb hZi
    have HPE := Lib.hid hpe
    have HOK := Lib.hid hokk
    have HPK := Lib.hid (show pk.fits ∧ i64P pk.frm ∧ i64P pk.dst ∧ pk.ok = true from (by rw [← HPE.out]; exact ⟨PK.cutL_fits HD.out.1.f, HD.out.1.e1, HD.out.1.e2, by rw [HPE.out]; exact HOK.out⟩))
    have HSZ := Lib.hid (show TN.length < 2000 ∧ TM.length < 2000 ∧ c < 1000000 by have a := HB.out.2.2.2.2.1; have b := HB.out.2.2.2.2.2.1; have cc := HB.out.2.2.2.2.2.2.2.1; omega)
    have HFL := Lib.hid HD.out.2.2.2.2.2.2
    have HRX := Lib.hid (show ∀ W, rowAt W b 42 Y.toArray → W.rangeAt b 3 X from fun W hW => hW.range HD.out.2.2.2.2.2.1)
    have HIX := Lib.hid (show (Tryd.prog.info? 40).map (·.size) = some X.length by rw [HD.out.1.v.len]; exact info_pk)
    clear hpe hokk
    go_upto_region 28 with (first
      | (go_at_call 13; (with_reducible refine (HBK.out _).mono ?_); rintro e w' ⟨rfl, rfl⟩)
      | (refine wpList_load_mid rfl 40 (.tmp 135) rfl b 3 rfl X _ (HRX.out _ HDC.out.1) Tryd.underlying40 rfl HIX.out ?_)
      | (go_at_call 34; (with_reducible refine (cutN_any F d.p X _ (HD.out.1.v.keep HBC.out.kept (by simp)) HD.out.1.f).mono ?_); rintro e w3 ⟨Xi, GG, rfl, i3, g3, k3⟩; rw [HPE.out] at i3; have I3 := Lib.hid i3; have N3 := Lib.hid g3; have K3 := Lib.hid k3; have hth := there_newP (w := w3) (t := 40) (Z := Z) (X := Xi) (by rw [I3.out.len]; exact HZ.out.2.symm); have hst := storedP (w := w3) (t := 40) (Z := Z) (X := Xi) (by rw [I3.out.len]; exact HZ.out.2.symm); obtain ⟨q8, hq8⟩ : ∃ q, w3.heap.size = q := ⟨_, rfl⟩; rw [hq8] at hth hst; have HT3 := Lib.hid hth; have ST3 := Lib.hid hst; have HQ := Lib.hid hq8; clear i3 g3 k3 hth hst y0)
      | (with_reducible refine wpList_alloc_to _ _ rfl 40 rfl _ HZ.out.1 rfl ?_)
      | (simp only [hq8]; refine wpList_store_mid rfl 40 (.tmp 18) (.tmp 137) rfl q8 0 Xi.toArray rfl rfl HT3.out (by rw [List.size_toArray, I3.out.len]; exact info_pk) (all_oneCell_toArray I3.out.one) ?_))
    try simp only [hq8]
    obtain ⟨w4, hw4⟩ : ∃ W, (w3.alloc (.cells Z.toArray 40)).setCells q8 0 Xi = W := ⟨_, rfl⟩
    rw [hw4] at ST3 ⊢
    have HQ8 := Lib.hid (show b < q8 by have a := K3.out.size; have e1 := HDC.out.1.lt; have e2 := HQ.out; omega)
    have HGQ := Lib.hid (show ∀ y ∈ GG, y < q8 from fun y hy => by have a := (N3.out y hy).2; have e2 := HQ.out; omega)
    have HH0 := Lib.hid (show bN0 ([] ++ GG) w0 w4 p m vN TN FN c (.slice AM TM.length kM) TM FM c ∧ itemV w4 GG (pk, Xi) ∧ (fun W => rowAt W q8 40 Xi.toArray ∧ rowAt W b 42 Y.toArray) w4 from ⟨(HBC.out.also K3.out N3.out).over ST3.out.2, I3.out.keep ST3.out.2 (by simp), ST3.out.1, ST3.out.2.row (K3.out.row HDC.out.1 (by simp)) (by simp)⟩)
    have HH1 := Lib.hid (show bN0 GG w0 w4.drew p m vN TN FN c (.slice AM TM.length kM) TM FM c ∧ itemV w4.drew GG (pk, Xi) ∧ (fun W => rowAt W q8 40 Xi.toArray ∧ rowAt W b 42 Y.toArray) w4.drew from ⟨HH0.out.1.over (keepBut.refl [] w4).drew, HH0.out.2.1.keep (keepBut.refl [] w4).drew (by simp), (keepBut.refl [] w4).drew.row HH0.out.2.2.1 (by simp), (keepBut.refl [] w4).drew.row HH0.out.2.2.2 (by simp)⟩)
    have HII := Lib.hid (show (Tryd.prog.info? 40).map (·.size) = some Xi.length by rw [I3.out.len]; exact info_pk)
    clear hw4 hq8 HH0
    refine wp_region_held_drew (S := (fun W => rowAt W q8 40 Xi.toArray ∧ rowAt W b 42 Y.toArray)) (by kernel_rfl) HH1.out.2.2 (fun _ => ?_)
    generalize w4.drew = w10 at HH1 ⊢
    have HFG := Lib.hid (show ∀ y ∈ GG, y ∉ homes vN from fun y hy hm => (HH1.out.1.far y hy).2.2 (.inl (by simp [hm])))
    refine wpAnyH_take (i := 0) (oi := ⟨_, _, _, _, _, _⟩) (v := ?_) rfl (by kernel_rfl) (by kernel_rfl) (by kernel_rfl) (fun _ _ _ h => h) (Or.inl ⟨by rfl, ?_⟩) HH1.out.2.2 ?_
    rotate_left
    · intro w' hSw; clear hSw; (go_simp; try with_reducible rfl)
    try simp only [Act.put, List.setIfInBounds_toArray, List.set_cons_zero, List.set_cons_succ]
    refine wpAnyH_take (i := 1) (oi := ⟨_, _, _, _, _, _⟩) (v := .agg Xi.toArray) rfl (by kernel_rfl) (by kernel_rfl) (by kernel_rfl) (fun _ _ _ h => h) (yieldsIf_mid 40 (.tmp 18) rfl q8 0 rfl Xi _ (fun w' hSw => hSw.1.rangeAll) Tryd.underlying40 rfl HII.out ?_) HH1.out.2.2 ?_
    · rfl
    try simp only [Act.put, List.setIfInBounds_toArray, List.set_cons_zero, List.set_cons_succ]
    refine wpAnyH_take (i := 3) (oi := ⟨_, _, _, _, _, _⟩) (v := ?_) rfl (by kernel_rfl) (by kernel_rfl) (by kernel_rfl) (fun _ _ _ h => h) (Or.inl ⟨by rfl, ?_⟩) HH1.out.2.2 ?_
    rotate_left
    · intro w' hSw; clear hSw; (go_simp; try with_reducible rfl)
    try simp only [Act.put, List.setIfInBounds_toArray, List.set_cons_zero, List.set_cons_succ]
    refine wpAnyH_take (i := 4) (oi := ⟨_, _, _, _, _, _⟩) (v := ?_) rfl (by kernel_rfl) (by kernel_rfl) (by kernel_rfl) (fun _ _ _ h => h) (Or.inl ⟨by rfl, ?_⟩) HH1.out.2.2 ?_
    rotate_left
    · intro w' hSw; clear hSw; (go_simp; try with_reducible rfl)
    try simp only [Act.put, List.setIfInBounds_toArray, List.set_cons_zero, List.set_cons_succ]
    refine wpAnyH_take (i := 5) (oi := ⟨_, _, _, _, _, _⟩) (v := .agg X.toArray) rfl (by kernel_rfl) (by kernel_rfl) (by kernel_rfl) (fun _ _ _ h => h) (yieldsIf_mid 40 (.tmp 142) rfl b 3 rfl X _ (fun w' hSw => HRX.out _ hSw.2) Tryd.underlying40 rfl HIX.out ?_) HH1.out.2.2 ?_
    · rfl
    try simp only [Act.put, List.setIfInBounds_toArray, List.set_cons_zero, List.set_cons_succ]
    refine wpAnyH_ready (rs := [2]) (by kernel_rfl) (by simp) ?_
    refine AllReadyH.cons (o := ⟨_, _, _, _, _, _⟩) rfl (fun KK hKK => ?_) AllReadyH.nil
    go_simp
    (with_reducible refine (putN_any p vN TN FN c GG pk Xi _ HH1.out.1.n HH1.out.2.1 HFG.out HPK.out.1 HSZ.out.1 HSZ.out.2.2 (HFL.out.keep HH1.out.1.kept (by simp)) HPK.out.2.1 HPK.out.2.2.1 HPK.out.2.2.2).mono ?_)
    rintro e w11 ⟨v2, XN, GN, rfl, n2, k2, h2, g2⟩
    have HB2 := Lib.hid (HH1.out.1.net n2 k2 h2 (fun y hy => (List.mem_append.1 hy).imp id (fun hg => (g2 y hg).1)))
    have HI2 := Lib.hid (HH1.out.2.1.keep k2 (fun y hy hm => (HH1.out.1.far y hy).2.2 (.inl hm)))
    have HS2 := Lib.hid (show (fun W => rowAt W q8 40 Xi.toArray ∧ rowAt W b 42 Y.toArray) w11 from ⟨k2.row HH1.out.2.2.1 (fun hm => by have := HLT.out _ (.inl hm); have := HQ8.out; omega), k2.row HH1.out.2.2.2 (fun hm => by have := HLT.out _ (.inl hm); omega)⟩)
    have HH2 := Lib.hid (And.intro HB2.out (And.intro HI2.out HS2.out))
    clear HB2 HI2 HS2 n2 k2 h2 g2
    go_wp2_with fail
    refine hKK.out _ _ HH2.out.2.2 (fun _ => ?_)
    clear hKK KK
    try simp only [Act.put, List.setIfInBounds_toArray, List.set_cons_zero, List.set_cons_succ]
    refine wpAnyH_ready (rs := [6]) (by kernel_rfl) (by simp) ?_
    refine AllReadyH.cons (o := ⟨_, _, _, _, _, _⟩) rfl (fun KK hKK => ?_) AllReadyH.nil
    go_simp
    (with_reducible refine (cutN_any F d.p X _ (HD.out.1.v.keep HH2.out.1.kept (by simp)) HD.out.1.f).mono ?_)
    rintro e w12 ⟨XJ, GJ, rfl, i3, g3, k3⟩
    rw [HPE.out] at i3
    have HJ3 := Lib.hid i3
    have HGJ := Lib.hid (show ∀ y ∈ GJ, b ≤ y ∧ y ∉ homes (.slice AM TM.length kM) from fun y hy => ⟨by have a := (g3 y hy).1; have e1 := HH2.out.2.2.2.lt; omega, fun hm => by have a := (g3 y hy).1; have e2 := HLT.out y (.inr (.inl (by simp [hm]))); have e1 := HH2.out.2.2.2.lt; omega⟩)
    have HH3 := Lib.hid (And.intro (HH2.out.1.over k3) (And.intro (HH2.out.2.1.keep k3 (by simp)) (show (fun W => rowAt W q8 40 Xi.toArray ∧ rowAt W b 42 Y.toArray) w12 from ⟨k3.row HH2.out.2.2.1 (by simp), k3.row HH2.out.2.2.2 (by simp)⟩)))
    clear i3 g3 k3
    go_wp2_with fail
    refine hKK.out _ _ HH3.out.2.2 (fun _ => ?_)
    clear hKK KK
    try simp only [Act.put, List.setIfInBounds_toArray, List.set_cons_zero, List.set_cons_succ]
    refine wpAnyH_ready (rs := [7]) (by kernel_rfl) (by simp) ?_
    refine AllReadyH.cons (o := ⟨_, _, _, _, _, _⟩) rfl (fun KK hKK => ?_) AllReadyH.nil
    go_simp
    (with_reducible refine (putM_any m _ TM FM c GJ pk XJ _ HH3.out.1.r HJ3.out (fun y hy => (HGJ.out y hy).2) HPK.out.1 HSZ.out.2.1 HSZ.out.2.2 HPK.out.2.2.2).mono ?_)
    rintro e w13 ⟨v4, XM, GM, rfl, n4, k4, h4, g4⟩
    have HB4 := Lib.hid (HH3.out.1.ref n4 k4 h4 (fun y hy => (List.mem_append.1 hy).imp id (fun hg => (g4 y hg).1)))
    have HI4 := Lib.hid (HH3.out.2.1.keep k4 (fun y hy hm => (HH3.out.1.far y hy).2.2 (.inr (.inl hm))))
    have HS4 := Lib.hid (show (fun W => rowAt W q8 40 Xi.toArray ∧ rowAt W b 42 Y.toArray) w13 from ⟨k4.row HH3.out.2.2.1 (fun hm => by have := HLT.out _ (.inr (.inl hm)); have := HQ8.out; omega), k4.row HH3.out.2.2.2 (fun hm => by have := HLT.out _ (.inr (.inl hm)); omega)⟩)
    have HH4 := Lib.hid (And.intro HB4.out (And.intro HI4.out HS4.out))
    clear HB4 HI4 HS4 n4 k4 h4 g4
    go_wp2_with fail
    refine hKK.out _ _ HH4.out.2.2 (fun _ => ?_)
    clear hKK KK
    try simp only [Act.put, List.setIfInBounds_toArray, List.set_cons_zero, List.set_cons_succ]
    refine wpAnyH_take (i := 8) (oi := ⟨_, _, _, _, _, _⟩) (v := ?_) rfl (by kernel_rfl) (by kernel_rfl) (by kernel_rfl) (fun _ _ _ h => h) (Or.inl ⟨by rfl, ?_⟩) HH4.out.2.2 ?_
    rotate_left
    · intro w' hSw; clear hSw; (go_simp; try with_reducible rfl)
    try simp only [Act.put, List.setIfInBounds_toArray, List.set_cons_zero, List.set_cons_succ]
    refine wpAnyH_take (i := 9) (oi := ⟨_, _, _, _, _, _⟩) (v := ?_) rfl (by kernel_rfl) (by kernel_rfl) (by kernel_rfl) (fun _ _ _ h => h) (Or.inl ⟨by rfl, ?_⟩) HH4.out.2.2 ?_
    rotate_left
    · intro w' hSw; clear hSw; (go_simp; try with_reducible rfl)
    try simp only [Act.put, List.setIfInBounds_toArray, List.set_cons_zero, List.set_cons_succ]
    refine wpAnyH_done (by kernel_rfl) ?_ _
    obtain ⟨A, ne, cA, C, nc, cC, e43, e84, b1, b2, b3, b4, tt⟩ := HH4.out.2.1.turns (w0 := w0) (fun y hy => ⟨(HH4.out.1.far y hy).1, (HH4.out.1.far y hy).2.1⟩)
    have HS0 : Hid (rowAt w13 q8 40 Xi.toArray ∧ nets GG w0 w13 p m (L ++ [pk]) (c + 1) ∧ twoT w0 w13 A ne C nc GG) := Lib.hid ⟨HH4.out.2.2.1, ⟨⟨_, _, _, _, _, _, HH4.out.1, map_snoc HB.out.2.1 pk XN, map_snoc HB.out.2.2.1 pk XM⟩, fun x hx => (by rcases List.mem_append.1 hx with hx | hx; exact HB.out.2.2.2.1 x hx; simp only [List.mem_singleton] at hx; rw [hx]; exact HPK.out.2.2.2)⟩, tt⟩
    have HP := Lib.hid (show Xi.toArray[43]? = some (.slice A ne cA) ∧ Xi.toArray[84]? = some (.slice C nc cC) ∧ True ∧ True ∧ True ∧ True ∧ (∀ y ∈ GG, y < q8) from ⟨e43, e84, trivial, trivial, trivial, trivial, HGQ.out⟩)
    have hneM : ne ≤ 9223372036854775807 := by unfold maxLen at b2; omega
    have hncM : nc ≤ 9223372036854775807 := by unfold maxLen at b4; omega
    clear e43 e84 b1 b2 b3 b4 tt
    go_upto_region 30 with fail
    go_loopw [20] (fun vv wx => tRel w0 p m (L ++ [pk]) (c + 1) q8 Xi A ne C nc GG ne vv wx) (fun vv _ => ne - (intOf vv).toNat)
    case atStart => exact ⟨0, Nat.zero_le _, rfl, HS0⟩
    case round =>
      obtain ⟨i0, hil, rfl, HI⟩ := hrel
      have a43 : wr.cell? ⟨q8, 43, none⟩ = some (.slice A ne cA) := (HI.out.1.cell 43).trans HP.out.1
      by_cases hlt : i0 < ne
      · obtain ⟨g, o, rfl, hg1, hg2, hg3, hg4⟩ := HI.out.2.2.e (by omega)
        obtain ⟨z, hz⟩ := hg4 i0 hlt
        have hfr := HI.out.2.1.kept.free (k := g) hg2 (o + i0)
        have hi2 : (i0 : Int) < (ne : Int) := by omega
        have hi0 : (0 : Int) ≤ (i0 : Int) := by omega
        have hwi : IntKind.i64.wrap ((i0 : Int) + 1) = (i0 : Int) + 1 := by rw [IntKind.wrap_i64]; omega
        have HG := Lib.hid (And.intro hg1 (And.intro hg2 hg3))
        clear hg1 hg2 hg3 hg4
        go_upto_region 32 with fail
        go_region
        have kk := ((keepBut.refl GG wr).setCell ⟨g, o + i0, none⟩ (.int .u8 (bits BinOp.xor IntKind.u8 z 1)) (.inl HG.out.1)).drew
        have r' := kk.row HI.out.1 (fun hm => by have := HP.out.2.2.2.2.2.2 _ hm; omega)
        have t' : twoT w0 (wr.setCell ⟨g, o + i0, none⟩ (.int .u8 (bits BinOp.xor IntKind.u8 z 1))).drew (some ⟨g, o, none⟩) ne C nc GG := ⟨(HI.out.2.2.e.set hlt).drew, (HI.out.2.2.c.other (by decide) hz _).drew⟩
        have n' := HI.out.2.1.keep kk (fun x hx => hx)
        generalize (wr.setCell ⟨g, o + i0, none⟩ (.int .u8 (bits BinOp.xor IntKind.u8 z 1))).drew = wx at kk r' t' n' ⊢
        have HN := Lib.hid (And.intro r' (And.intro n' t'))
        clear kk r' t' n' hz hfr a43
        go_wp2_with fail
        go_roundw
        case rel => exact ⟨i0 + 1, by omega, by go_num, HN⟩
        case measure => simp only [intOf]; omega
      · have hie : ¬ (i0 : Int) < (ne : Int) := by omega
        go_upto_region 34 with fail
        clear a43
        go_loopw [21] (fun vv wx => tRel w0 p m (L ++ [pk]) (c + 1) q8 Xi A ne C nc GG nc vv wx) (fun vv _ => nc - (intOf vv).toNat)
        case atStart => exact ⟨0, Nat.zero_le _, rfl, HI⟩
        case round =>
          obtain ⟨j0, hjl, rfl, HJJ⟩ := hrel
          have a84 : wr.cell? ⟨q8, 84, none⟩ = some (.slice C nc cC) := (HJJ.out.1.cell 84).trans HP.out.2.1
          by_cases hltj : j0 < nc
          · obtain ⟨g, o, rfl, hg1, hg2, hg3, hg4⟩ := HJJ.out.2.2.c (by omega)
            obtain ⟨z, hz⟩ := hg4 j0 hltj
            have hfr := HJJ.out.2.1.kept.free (k := g) hg2 (o + j0)
            have hi2 : (j0 : Int) < (nc : Int) := by omega
            have hi0 : (0 : Int) ≤ (j0 : Int) := by omega
            have hwi : IntKind.i64.wrap ((j0 : Int) + 1) = (j0 : Int) + 1 := by rw [IntKind.wrap_i64]; omega
            have kk := (keepBut.refl GG wr).setCell ⟨g, o + j0, none⟩ (.int .i64 (-1)) (.inl hg1)
            have HN := Lib.hid (show rowAt (wr.setCell ⟨g, o + j0, none⟩ (.int .i64 (-1))) q8 40 Xi.toArray ∧ nets GG w0 (wr.setCell ⟨g, o + j0, none⟩ (.int .i64 (-1))) p m (L ++ [pk]) (c + 1) ∧ twoT w0 (wr.setCell ⟨g, o + j0, none⟩ (.int .i64 (-1))) A ne (some ⟨g, o, none⟩) nc GG from ⟨kk.row HJJ.out.1 (fun hm => by have := HP.out.2.2.2.2.2.2 _ hm; omega), HJJ.out.2.1.keep kk (fun x hx => hx), ⟨HJJ.out.2.2.e.other (by decide) hz _, HJJ.out.2.2.c.set hltj⟩⟩)
            clear hg1 hg2 hg3 hg4 kk hie hlt
            go_wp2_with fail
            go_roundw
            case rel => exact ⟨j0 + 1, by omega, by go_num, HN⟩
            case measure => simp only [intOf]; omega
          · have hje : ¬ (j0 : Int) < (nc : Int) := by omega
            go_wp2_with fail
            go_ret
            exact ⟨(L ++ [pk]), (c + 1), rfl, HJJ.out.2.1.less (by simp), by simp, by omega⟩
end Go.Proofs.YtcnlnkkdcofphaaDoor
end
