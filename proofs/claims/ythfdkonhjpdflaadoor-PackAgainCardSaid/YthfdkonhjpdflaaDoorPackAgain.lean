/-
  PACK: PackAgain: what can be read has just these bytes, and may be.
-/
import Derived.Test.YthfdkonhjpdflaaDoorPkEnd
namespace Go.Proofs.YthfdkonhjpdflaaDoor
open Go.RowKit
set_option linter.unusedVariables false
set_option maxRecDepth 100000
set_option linter.unusedSimpArgs false

theorem eqZ : Tryd.zeroCells38 = (pkL pkZero nilV nilV nilV nilV nilV).toArray := by kernel_rfl
theorem same_zero : pkZero.same pkZero = true := PK.same_refl _
/-- a row that is stored whole into a block that was just made -/
theorem stored {w : World} {t : TypeId} {Z X : List Value} (h : X.length = Z.length) :
    rowAt ((w.alloc (.cells Z.toArray t)).setCells w.heap.size 0 X) w.heap.size t X.toArray ∧ keepBut [] w ((w.alloc (.cells Z.toArray t)).setCells w.heap.size 0 X) := by
  have r := (rowAt.new w t Z.toArray).setL (vs := X) (o := 0)
  rw [putL_all (by rw [List.size_toArray]; exact h)] at r
  exact ⟨r, ((keepBut.refl [] w).alloc _).setL (.inr (Nat.le_refl _))⟩
theorem there_new {w : World} {t : TypeId} {Z X : List Value} (h : X.length = Z.length) : (w.alloc (.cells Z.toArray t)).there w.heap.size 0 X.toArray.size := (rowAt.new w t Z.toArray).there (by simp only [List.size_toArray]; omega)
set_option maxHeartbeats 16000000 in
theorem packAgain_law (A : Option Addr) (g c : Nat) (b0 : List UInt8) (w : World) (hs : seen w A g b0) (hlc : b0.length ≤ c) (hcm : c ≤ maxLen) (hfl : fieldsAt w) :
    Calls Tryd.prog 4 #[.slice A b0.length c] w fun e w' => e = .returned (.bool true) ∧ keepBut [] w w' := by
  have hcm' := hcm
  unfold maxLen at hcm
  obtain ⟨b, hL⟩ : ∃ b, b = b0.take 3000 := ⟨_, rfl⟩
  have sb : seen w A g b := by rw [hL]; exact hs.take 3000
  have b3 : b.length ≤ 3000 := by rw [hL, List.length_take]; omega
  have bc : b.length ≤ c := by rw [hL, List.length_take]; omega
  have e1 : (if 3000 < (b0.length : Int) then 3000 else (b0.length : Int)).toNat = b.length := by rw [hL, List.length_take]; split <;> omega
  have E1 := Lib.hid e1
  have hB : ∀ wx, keepBut [] w wx → bytesV wx [g] (.slice A b.length c) b := fun wx k => ⟨A, c, g, rfl, bc, hcm', sb.keep k (by simp), fun _ => by simp⟩
  have HB := Lib.hid (And.intro hB (And.intro (fun wx (k : keepBut [] w wx) => (show seen wx A g b from sb.keep k (by simp))) (fun wx (k : keepBut [] w wx) => (hfl.keep k (by simp)))))
  have hbb : (b == b) = true := by simp
  clear e1 hL hs hB hfl sb hcm'
  have zv := zv_pk
  obtain ⟨Z, hZ⟩ : ∃ Z, pkL pkZero nilV nilV nilV nilV nilV = Z := ⟨_, rfl⟩
  have zl := pkZ_len
  rw [hZ] at zv zl
  have HZ := Lib.hid (And.intro zv (And.intro zl hZ))
  clear zv zl hZ
  go_enter Tryd.func4, Tryd.ntmps4
  go_upto_region 2 with fail
  simp only [E1.out]
  generalize (if 3000 < (b0.length : Int) then 3000 else (b0.length : Int)) = zz
  obtain ⟨p, hp⟩ : ∃ p, (parsePk b).1 = p := ⟨_, rfl⟩
  obtain ⟨E, hE⟩ : ∃ p, (parsePk b).2 = p := ⟨_, rfl⟩
  have hInv : E = 0 → p.ok = true ∧ p.req.name.length = 32 ∧ p.ans.name.length = 32 ∧ pkB p = b := fun h => by have := parsePk_inv (b := b) (by rw [hE]; exact h); rwa [hp] at this
  have hNo : E ≠ 0 → p = pkZero := fun h => by have := parsePk_zero (b := b) (by rw [hE]; exact h); rwa [hp] at this
  have HP := Lib.hid (And.intro hp (And.intro hE (And.intro hInv hNo)))
  clear hp hE hInv hNo
  go_upto_region 3 with (first
    | (go_at_call 9; refine (parsePk_any [g] b _ _ (HB.out.1 _ (keepBut.refl [] w)) (by omega) (HB.out.2.2 _ (keepBut.refl [] w))).mono ?_; intro e w3 hq; rw [HP.out.1, HP.out.2.1] at hq; obtain ⟨ev', av', cv', vv', bw', G3, rfl, hv3, _, kk3⟩ := hq; have H3 := Lib.hid (And.intro hv3 (And.intro kk3 (pkL_len (ev := ev') (av := av') (cv := cv') (vv := vv') (bw := bw') hv3.rn hv3.an))); clear hv3 kk3)
    | (with_reducible refine wpList_alloc_to _ _ rfl 38 rfl _ HZ.out.1 rfl ?_)
    | (refine wpList_store_mid rfl 38 (.tmp 3) (.tmp 27) rfl w3.heap.size 0 (pkL p ev' av' cv' vv' bw').toArray rfl rfl (there_new (by rw [H3.out.2.2]; exact HZ.out.2.1.symm)) (by rw [List.size_toArray, H3.out.2.2]; exact info_pk) (all_oneCell_toArray (pkL_one H3.out.1.re.one H3.out.1.ae.one H3.out.1.cc.one H3.out.1.vs.one H3.out.1.bs.one)) ?_))
  have hst := stored (w := w3) (t := 38) (Z := Z) (X := pkL p ev' av' cv' vv' bw') (by rw [H3.out.2.2]; exact HZ.out.2.1.symm)
  obtain ⟨w4, hw4⟩ : ∃ w4, (w3.alloc (.cells Z.toArray 38)).setCells w3.heap.size 0 (pkL p ev' av' cv' vv' bw') = w4 := ⟨_, rfl⟩
  rw [hw4] at hst ⊢
  obtain ⟨tq, htq⟩ : ∃ t, w3.heap.size = t := ⟨_, rfl⟩
  rw [htq] at hst ⊢
  have hI : (Tryd.prog.info? 38).map (·.size) = some (pkL p ev' av' cv' vv' bw').length := by rw [H3.out.2.2]; exact info_pk
  have H4 := Lib.hid (And.intro hst.1 (And.intro (H3.out.2.1.then hst.2 (by simp)) (And.intro (H3.out.1.keep hst.2 (by simp)) hI)))
  clear hst hw4 htq hI
  go_upto_if 30 with fail
  go_cut [] (fun wx => keepBut [] w wx)
  case first =>
    by_cases hE : E = 0
    · have HI := Lib.hid (HP.out.2.2.1 hE)
      have hb1 : i64P p.frm := by unfold i64P; have := nodeP_range (p.ok_facts HI.out.1).2.1; omega
      have hb2 : i64P p.dst := by unfold i64P; have := nodeP_range (p.ok_facts HI.out.1).2.2.1; omega
      subst hE
      go_wp2_with (first
        | (refine wpList_load_mid_g 38 (.tmp 3) rfl tq 0 rfl (pkL p ev' av' cv' vv' bw') _ H4.out.1.rangeAll Tryd.underlying38 rfl H4.out.2.2.2 ?_ ?_; · rfl)
        | (refine wpList_load_mid_g 38 (.tmp 3) rfl tq 0 rfl (pkL p ev' av' cv' vv' bw') _ R5.out Tryd.underlying38 rfl H4.out.2.2.2 ?_ ?_; · rfl)
        | (go_at_call 8; refine (bytes_any G3 p _ _ _ _ _ _ H4.out.2.2.1 (HB.out.2.2 _ H4.out.2.1) hb1 hb2 HI.out.1).mono ?_; intro e w5 hq; rw [HI.out.2.2.2] at hq; obtain ⟨u, G5, rfl, ⟨A5, c5, g5, rfl, _, _, sn5, _⟩, nw5, kk5⟩ := hq; have H5 := Lib.hid (And.intro sn5 (H4.out.2.1.then kk5 (by simp))); have R5 := Lib.hid ((kk5.row H4.out.1 (by simp)).rangeAll); have V5 := Lib.hid (H4.out.2.2.1.keep kk5 (by simp)); clear sn5 nw5 kk5)
        | (go_at_call 13; refine (eqBytes_any A A5 g g5 c c5 b b _ (HB.out.2.1 _ H5.out.2) H5.out.1).mono ?_; rintro e w9 ⟨rfl, rfl⟩; rw [hbb])
        | (go_at_call 10; refine (check_any G3 p _ _ _ _ _ _ V5.out (HB.out.2.2 _ H5.out.2) hb1 hb2).mono ?_; rintro e w6 ⟨rfl, k6⟩; rw [HI.out.1]; have K6 := Lib.hid (H5.out.2.then k6 (by simp)); clear k6))
      go_meet
      exact K6.out
    · have hEb : (E == 0) = false := by simp [hE]
      have HN := Lib.hid (HP.out.2.2.2 hE)
      go_wp2_with (first
        | (refine wpList_load_mid rfl 38 (.tmp 3) rfl tq 0 rfl (pkL p ev' av' cv' vv' bw') _ H4.out.1.rangeAll Tryd.underlying38 rfl H4.out.2.2.2 ?_)
        | (go_at_call 11; rw [eqZ]; refine (pkSame_any G3 [] p pkZero _ _ _ _ _ _ _ _ _ _ _ H4.out.2.2.1 (pkZero_val _ _)).mono ?_; rintro e w10 ⟨rfl, k10⟩; rw [HN.out, same_zero]; have K10 := Lib.hid k10; clear k10))
      go_meet
      exact H4.out.2.1.then K10.out (by simp)
  case rest =>
    have KW := Lib.hid hcut
    clear hcut
    generalize wc = W at *
    obtain ⟨q, hq⟩ : ∃ p, (parseRq b).1 = p := ⟨_, rfl⟩
    obtain ⟨E2, hE2⟩ : ∃ p, (parseRq b).2 = p := ⟨_, rfl⟩
    have hInv : E2 = 0 → q.ok = true ∧ q.name.length = 32 ∧ reqB q = b := fun h => by have := parseRq_inv (b := b) (by rw [hE2]; exact h); rwa [hq] at this
    have HQ := Lib.hid (And.intro hq (And.intro hE2 hInv))
    clear hq hE2 hInv
    have zv := zv_rq
    obtain ⟨Z2, hZ2⟩ : ∃ Z, rqL rqZero nilV = Z := ⟨_, rfl⟩
    have zl : Z2.length = 37 := by rw [← hZ2]; exact rqZ_len
    rw [hZ2] at zv
    have HZ2 := Lib.hid (And.intro zv zl)
    clear zv zl hZ2
    go_upto_if 59 with (first
      | (go_at_call 14; refine (parseRq_any [g] b _ _ (HB.out.1 _ KW.out) (by omega)).mono ?_; intro e w3 hq; rw [HQ.out.1, HQ.out.2.1] at hq; obtain ⟨ex, G3, rfl, hv3, _, kk3⟩ := hq; have H3 : Hid (rqV w3 G3 q ex ∧ keepBut [] w w3 ∧ (rqL q ex).length = 37 ∧ (∀ u ∈ rqL q ex, u.oneCell' = true)) := Lib.hid ⟨hv3, KW.out.then kk3 (by simp), rqL_len hv3.1, rqL_one q hv3.2.one⟩; clear hv3 kk3)
      | (with_reducible refine wpList_alloc_to _ _ rfl 30 rfl _ HZ2.out.1 rfl ?_)
      | (refine wpList_store_mid rfl 30 (.tmp 7) (.tmp 56) rfl w3.heap.size 0 (rqL q ex).toArray rfl rfl (there_new (by rw [H3.out.2.2.1]; exact HZ2.out.2.symm)) (by rw [List.size_toArray, H3.out.2.2.1]; exact info_rq) (all_oneCell_toArray H3.out.2.2.2) ?_))
    have hst := stored (w := w3) (t := 30) (Z := Z2) (X := rqL q ex) (by rw [H3.out.2.2.1]; exact HZ2.out.2.symm)
    try simp only [Act.put]
    obtain ⟨w4, hw4⟩ : ∃ w4, (w3.alloc (.cells Z2.toArray 30)).setCells w3.heap.size 0 (rqL q ex) = w4 := ⟨_, rfl⟩
    rw [hw4] at hst ⊢
    obtain ⟨tq, htq⟩ : ∃ t, w3.heap.size = t := ⟨_, rfl⟩
    rw [htq] at hst ⊢
    have hI : (Tryd.prog.info? 30).map (·.size) = some (rqL q ex).length := by rw [H3.out.2.2.1]; exact info_rq
    have H4 : Hid (rowAt w4 tq 30 (rqL q ex).toArray ∧ keepBut [] w w4 ∧ (rqV w4 G3 q ex) ∧ (Tryd.prog.info? 30).map (·.size) = some (rqL q ex).length) := Lib.hid ⟨hst.1, H3.out.2.1.then hst.2 (by simp), ⟨H3.out.1.1, H3.out.1.2.keep hst.2 (by simp)⟩, hI⟩
    clear hst hw4 htq hI
    go_cut [] (fun wx => keepBut [] w wx)
    case first =>
      by_cases hE : E2 = 0
      · have HI := Lib.hid (HQ.out.2.2 hE)
        subst hE
        go_wp2_with (first
          | (refine wpList_load_mid rfl 30 (.tmp 7) rfl tq 0 rfl (rqL q ex) _ H4.out.1.rangeAll Tryd.underlying30 rfl H4.out.2.2.2 ?_)
          | (go_at_call 15; refine (bytesReq_any G3 q _ _ H4.out.2.2.1 HI.out.1).mono ?_; intro e w5 hq; rw [HI.out.2.2] at hq; obtain ⟨u, G5, rfl, ⟨A5, c5, g5, rfl, _, _, sn5, _⟩, nw5, kk5⟩ := hq; have H5 := Lib.hid (And.intro sn5 (H4.out.2.1.then kk5 (by simp))); clear sn5 nw5 kk5)
          | (go_at_call 13; refine (eqBytes_any A A5 g g5 c c5 b b _ (HB.out.2.1 _ H5.out.2) H5.out.1).mono ?_; rintro e w9 ⟨rfl, rfl⟩; rw [hbb]))
        go_meet
        exact H5.out.2
      · have hEb : (E2 == 0) = false := by simp [hE]
        go_wp2_with fail
        go_meet
        exact H4.out.2.1
    case rest =>
      have KW := Lib.hid hcut
      clear hcut
      generalize wc = W at *
      obtain ⟨q, hq⟩ : ∃ p, (parseAn b).1 = p := ⟨_, rfl⟩
      obtain ⟨E2, hE2⟩ : ∃ p, (parseAn b).2 = p := ⟨_, rfl⟩
      have hInv : E2 = 0 → q.ok = true ∧ q.name.length = 32 ∧ ansB q = b := fun h => by have := parseAn_inv (b := b) (by rw [hE2]; exact h); rwa [hq] at this
      have HQ := Lib.hid (And.intro hq (And.intro hE2 hInv))
      clear hq hE2 hInv
      have zv := zv_an
      obtain ⟨Z2, hZ2⟩ : ∃ Z, anL anZero nilV = Z := ⟨_, rfl⟩
      have zl : Z2.length = 38 := by rw [← hZ2]; exact anZ_len
      rw [hZ2] at zv
      have HZ2 := Lib.hid (And.intro zv zl)
      clear zv zl hZ2
      go_upto_if 79 with (first
        | (go_at_call 16; refine (parseAn_any [g] b _ _ (HB.out.1 _ KW.out) (by omega)).mono ?_; intro e w3 hq; rw [HQ.out.1, HQ.out.2.1] at hq; obtain ⟨ex, G3, rfl, hv3, _, kk3⟩ := hq; have H3 : Hid (anV w3 G3 q ex ∧ keepBut [] w w3 ∧ (anL q ex).length = 38 ∧ (∀ u ∈ anL q ex, u.oneCell' = true)) := Lib.hid ⟨hv3, KW.out.then kk3 (by simp), anL_len hv3.1, anL_one q hv3.2.one⟩; clear hv3 kk3)
        | (with_reducible refine wpList_alloc_to _ _ rfl 32 rfl _ HZ2.out.1 rfl ?_)
        | (refine wpList_store_mid rfl 32 (.tmp 11) (.tmp 76) rfl w3.heap.size 0 (anL q ex).toArray rfl rfl (there_new (by rw [H3.out.2.2.1]; exact HZ2.out.2.symm)) (by rw [List.size_toArray, H3.out.2.2.1]; exact info_an) (all_oneCell_toArray H3.out.2.2.2) ?_))
      have hst := stored (w := w3) (t := 32) (Z := Z2) (X := anL q ex) (by rw [H3.out.2.2.1]; exact HZ2.out.2.symm)
      try simp only [Act.put]
      obtain ⟨w4, hw4⟩ : ∃ w4, (w3.alloc (.cells Z2.toArray 32)).setCells w3.heap.size 0 (anL q ex) = w4 := ⟨_, rfl⟩
      rw [hw4] at hst ⊢
      obtain ⟨tq, htq⟩ : ∃ t, w3.heap.size = t := ⟨_, rfl⟩
      rw [htq] at hst ⊢
      have hI : (Tryd.prog.info? 32).map (·.size) = some (anL q ex).length := by rw [H3.out.2.2.1]; exact info_an
      have H4 : Hid (rowAt w4 tq 32 (anL q ex).toArray ∧ keepBut [] w w4 ∧ (anV w4 G3 q ex) ∧ (Tryd.prog.info? 32).map (·.size) = some (anL q ex).length) := Lib.hid ⟨hst.1, H3.out.2.1.then hst.2 (by simp), ⟨H3.out.1.1, H3.out.1.2.keep hst.2 (by simp)⟩, hI⟩
      clear hst hw4 htq hI
      go_cut [] (fun wx => keepBut [] w wx)
      case first =>
        by_cases hE : E2 = 0
        · have HI := Lib.hid (HQ.out.2.2 hE)
          subst hE
          go_wp2_with (first
            | (refine wpList_load_mid rfl 32 (.tmp 11) rfl tq 0 rfl (anL q ex) _ H4.out.1.rangeAll Tryd.underlying32 rfl H4.out.2.2.2 ?_)
            | (go_at_call 17; refine (bytesAns_any G3 q _ _ H4.out.2.2.1 HI.out.1).mono ?_; intro e w5 hq; rw [HI.out.2.2] at hq; obtain ⟨u, G5, rfl, ⟨A5, c5, g5, rfl, _, _, sn5, _⟩, nw5, kk5⟩ := hq; have H5 := Lib.hid (And.intro sn5 (H4.out.2.1.then kk5 (by simp))); clear sn5 nw5 kk5)
            | (go_at_call 13; refine (eqBytes_any A A5 g g5 c c5 b b _ (HB.out.2.1 _ H5.out.2) H5.out.1).mono ?_; rintro e w9 ⟨rfl, rfl⟩; rw [hbb]))
          go_meet
          exact H5.out.2
        · have hEb : (E2 == 0) = false := by simp [hE]
          go_wp2_with fail
          go_meet
          exact H4.out.2.1
      case rest =>
        have KW := Lib.hid hcut
        clear hcut
        generalize wc = W at *
        obtain ⟨q, hq⟩ : ∃ p, (parseCf b).1 = p := ⟨_, rfl⟩
        obtain ⟨E2, hE2⟩ : ∃ p, (parseCf b).2 = p := ⟨_, rfl⟩
        have hInv : E2 = 0 → q.ok = true ∧ cfB q = b := fun h => by have := parseCf_inv (b := b) (by rw [hE2]; exact h); rwa [hq] at this
        have HQ := Lib.hid (And.intro hq (And.intro hE2 hInv))
        clear hq hE2 hInv
        have zv := zv_cf
        obtain ⟨Z2, hZ2⟩ : ∃ Z, cfL cfZero nilV = Z := ⟨_, rfl⟩
        have zl : Z2.length = 3 := by rw [← hZ2]; exact (show (cfL cfZero nilV).length = 3 from rfl)
        rw [hZ2] at zv
        have HZ2 := Lib.hid (And.intro zv zl)
        clear zv zl hZ2
        go_upto_if 99 with (first
          | (go_at_call 18; refine (parseCf_any [g] b _ _ (HB.out.1 _ KW.out) (by omega)).mono ?_; intro e w3 hq; rw [HQ.out.1, HQ.out.2.1] at hq; obtain ⟨ex, G3, rfl, hv3, _, kk3⟩ := hq; have H3 : Hid (intsV w3 G3 ex q.chain ∧ keepBut [] w w3 ∧ (cfL q ex).length = 3 ∧ (∀ u ∈ cfL q ex, u.oneCell' = true)) := Lib.hid ⟨hv3, KW.out.then kk3 (by simp), rfl, cfL_one q hv3.one⟩; obtain ⟨X, hX⟩ : ∃ X, cfL q ex = X := ⟨_, rfl⟩; rw [hX] at H3 ⊢; have HX := Lib.hid hX; clear hX; clear hv3 kk3)
          | (with_reducible refine wpList_alloc_to _ _ rfl 35 rfl _ HZ2.out.1 rfl ?_)
          | (refine wpList_store_mid rfl 35 (.tmp 15) (.tmp 96) rfl w3.heap.size 0 X.toArray rfl rfl (there_new (w := w3) (t := 35) (Z := Z2) (X := X) (by rw [H3.out.2.2.1]; exact HZ2.out.2.symm)) (by rw [List.size_toArray, H3.out.2.2.1]; exact info_cf) (all_oneCell_toArray H3.out.2.2.2) ?_))
        have hst := stored (w := w3) (t := 35) (Z := Z2) (X := X) (by rw [H3.out.2.2.1]; exact HZ2.out.2.symm)
        try simp only [Act.put]
        obtain ⟨w4, hw4⟩ : ∃ w4, (w3.alloc (.cells Z2.toArray 35)).setCells w3.heap.size 0 X = w4 := ⟨_, rfl⟩
        rw [hw4] at hst ⊢
        obtain ⟨tq, htq⟩ : ∃ t, w3.heap.size = t := ⟨_, rfl⟩
        rw [htq] at hst ⊢
        have hI : (Tryd.prog.info? 35).map (·.size) = some X.length := by rw [H3.out.2.2.1]; exact info_cf
        have H4 : Hid (rowAt w4 tq 35 X.toArray ∧ keepBut [] w w4 ∧ (intsV w4 G3 ex q.chain) ∧ (Tryd.prog.info? 35).map (·.size) = some X.length) := Lib.hid ⟨hst.1, H3.out.2.1.then hst.2 (by simp), H3.out.1.keep hst.2 (by simp), hI⟩
        clear hst hw4 htq hI
        go_cut [] (fun wx => keepBut [] w wx)
        case first =>
          by_cases hE : E2 = 0
          · have HI := Lib.hid (HQ.out.2.2 hE)
            subst hE
            go_wp2_with (first
              | (refine wpList_load_mid rfl 35 (.tmp 15) rfl tq 0 rfl X _ H4.out.1.rangeAll Tryd.underlying35 rfl H4.out.2.2.2 ?_)
              | (go_at_call 19; rw [← HX.out]; refine (bytesConf_any G3 q _ _ H4.out.2.2.1 HI.out.1).mono ?_; intro e w5 hq; rw [HI.out.2] at hq; obtain ⟨u, G5, rfl, ⟨A5, c5, g5, rfl, _, _, sn5, _⟩, nw5, kk5⟩ := hq; have H5 := Lib.hid (And.intro sn5 (H4.out.2.1.then kk5 (by simp))); clear sn5 nw5 kk5)
              | (go_at_call 13; refine (eqBytes_any A A5 g g5 c c5 b b _ (HB.out.2.1 _ H5.out.2) H5.out.1).mono ?_; rintro e w9 ⟨rfl, rfl⟩; rw [hbb]))
            go_meet
            exact H5.out.2
          · have hEb : (E2 == 0) = false := by simp [hE]
            go_wp2_with fail
            go_meet
            exact H4.out.2.1
        case rest =>
          have KW := Lib.hid hcut
          clear hcut
          generalize wc = W at *
          go_wp2_with (first
            | (go_at_call 6; refine (works_any _ (HB.out.2.2 _ KW.out)).mono ?_; rintro e w12 ⟨rfl, k12⟩; have K12 := Lib.hid k12; clear k12))
          go_ret
          exact ⟨rfl, KW.out.then K12.out (by simp)⟩
end Go.Proofs.YthfdkonhjpdflaaDoor
