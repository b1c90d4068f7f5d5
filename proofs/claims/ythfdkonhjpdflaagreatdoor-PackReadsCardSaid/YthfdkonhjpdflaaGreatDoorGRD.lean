/-
  GRD: GR7d, GR8, joined.
-/
import Derived.Test.YthfdkonhjpdflaaGreatDoorGR7b
import Derived.Test.YthfdkonhjpdflaaGreatDoorGR7c
import Derived.Test.YthfdkonhjpdflaaGreatDoorRC15
section
namespace Go.Proofs.YthfdkonhjpdflaaGreatDoor
open Go.RowKit
set_option linter.unusedVariables false
set_option maxRecDepth 100000

theorem body_any (b : List UInt8) (p g : Nat) (w : World) (hr : isR2 w p g (hdS b).2.1) (he : hdE b = 0) (hl : (hdS b).2.1.l.length ≤ 1000000) :
    Calls Tryz.prog 100 #[.pointer (some ⟨p, 0, none⟩), .agg (pkL (hdS b).1 nilV nilV nilV nilV nilV).toArray] w (bodyOut (bdS (fieldsP (hdQ b).kind) (hdS b)) p g w) := by
  obtain ⟨h1, h2⟩ := hd_in he
  have hp := (hdE_no he).1
  obtain ⟨hk, hv⟩ := hdS_plain b
  have e : hdS b = ((hdS b).1, (hdS b).2.1, 0) := by rw [← hp]
  obtain ⟨q, hq⟩ : ∃ q, (hdS b).1 = q := ⟨_, rfl⟩
  obtain ⟨r, hr0⟩ : ∃ r, (hdS b).2.1 = r := ⟨_, rfl⟩
  rw [hq] at hk hv e
  rw [hr0] at hr hl e
  rw [e, ← hk]
  rw [← hk] at h1 h2
  show Calls _ _ #[_, .agg (pkL q nilV nilV nilV nilV nilV).toArray] w (bodyOut (bdS (fieldsP q.kind) (q, r, 0)) p g w)
  obtain h | h | h | h | h | h : (q.kind = 1 ∨ q.kind = 3) ∨ q.kind = 2 ∨ (q.kind = 7 ∨ q.kind = 12) ∨ q.kind = 6 ∨ q.kind = 11 ∨ (q.kind = 4 ∨ q.kind = 5 ∨ q.kind = 8 ∨ q.kind = 9 ∨ q.kind = 10 ∨ q.kind = 13 ∨ q.kind = 14) := by omega
  · exact bodyRq p g q r w h hv hr hl
  · exact bodyAn p g q r w h hv hr hl
  · exact bodyCf p g q r w h hv hr hl
  · exact bodyBs p g q r w h hv hr hl
  · exact bodyVs p g q r w h hv hr hl
  · exact bodyNo p g q r w h hv hr hl
theorem f4_short {h : Int} {s : SF} {n : Nat} (hs : s.2.1.l.length ≤ n) : (f1 h s).2.1.l.length ≤ n ∧ (f2 h s).2.1.l.length ≤ n ∧ (f3 h s).2.1.l.length ≤ n ∧ (f4 h s).2.1.l.length ≤ n := by
  refine ⟨?_, ?_, ?_, ?_⟩
  · unfold f1; split
    · exact hs
    · exact Nat.le_trans (RS.count_short _ _) hs
  · unfold f2; split
    · exact hs
    · exact Nat.le_trans (RS.count_short _ _) hs
  · unfold f3; split
    · exact hs
    · exact Nat.le_trans (RS.count_short _ _) hs
  · unfold f4; split
    · exact hs
    · exact Nat.le_trans (num_short _ _) hs
theorem hdS_short (b : List UInt8) : (hdS b).2.1.l.length ≤ b.length := by
  unfold hdS
  refine (f4_short (f4_short (f4_short (f4_short ?_).1).2.1).2.2.1).2.2.2
  exact Nat.le_trans (num_short _ _) (Nat.le_trans (num_short _ _) (num_short _ _))
end Go.Proofs.YthfdkonhjpdflaaGreatDoor
end

section
namespace Go.Proofs.YthfdkonhjpdflaaGreatDoor
open Go.RowKit
set_option linter.unusedVariables false
set_option maxRecDepth 100000
set_option linter.unusedSimpArgs false

set_option maxHeartbeats 16000000 in
theorem parse2_any (F : List Nat) (b : List UInt8) (v : Value) (w : World) (h : bytesV w F v b) (hb : b.length ≤ 1000000) :
    Calls Tryz.prog 29 #[v] w fun e w' => ∃ X G, e = .returned (.tuple #[.agg X.toArray, .int .i64 (parsePk b).2]) ∧ itemV w' G ((parsePk b).1, X) ∧ newIn w w' G ∧ keepBut [] w w' := by
  obtain ⟨Z, hZ⟩ : ∃ Z, pkL pkZero nilV nilV nilV nilV nilV = Z := ⟨_, rfl⟩
  have zv := zv_pk
  have zl := pkZ_len
  have zo := pkZ_one
  rw [hZ] at zv zl zo
  have kA := (keepBut.refl [] w).alloc (.cells Z.toArray 34)
  have rA := rowAt.new w 34 Z.toArray
  obtain ⟨wA, hwA⟩ : ∃ wA, w.alloc (.cells Z.toArray 34) = wA := ⟨_, rfl⟩
  rw [hwA] at kA rA
  have hA := h.keep kA (by simp)
  obtain ⟨A, c, g0, rfl, h2, h3, h4, h5⟩ := hA
  have HA := Lib.hid (And.intro hwA (And.intro kA (And.intro rA (And.intro h4 (And.intro hb (And.intro zv (And.intro zl (And.intro hZ zo))))))))
  clear kA rA hwA h2 h3 h4 h5 h zv zl zo hZ
  go_enter Tryz.func29, Tryz.ntmps29
  go_upto_region 3 with (first
    | (with_reducible refine wpList_alloc_to _ _ rfl 34 rfl _ HA.out.2.2.2.2.2.1 HA.out.1 ?_)
    | (go_at_call 98; refine (read2_any A g0 c b.length b _ rfl HA.out.2.2.2.1 (by have := HA.out.2.2.2.2.1; omega)).mono ?_; rintro e w1 ⟨p, g, rfl, d1, d2, d3, d4⟩; have D1 := Lib.hid (And.intro d1 (And.intro d2 (And.intro d3 d4))); clear d1 d2 d3 d4)
    | (go_at_call 99; refine (head2_any p g b _ D1.out.1 HA.out.2.2.2.2.1).mono ?_; rintro e w2 ⟨q, rfl, n1, n2, n3, k2⟩; obtain ⟨X, hX⟩ : ∃ X, pkL q nilV nilV nilV nilV nilV = X := ⟨_, rfl⟩; have xl : X.length = 87 := (hX ▸ pkL_len n1 n2); have xo : ∀ u ∈ X, u.oneCell' = true := (hX ▸ pkL_one rfl rfl rfl rfl rfl); rw [hX]; obtain ⟨tb, htb⟩ : ∃ b, w2.heap.size = b := ⟨_, rfl⟩; obtain ⟨w3, hw3⟩ : ∃ W, w2.alloc (.cells Z.toArray 34) = W := ⟨_, rfl⟩; have k3 : keepBut [] w2 w3 := hw3 ▸ (keepBut.refl [] w2).alloc _; have r3 : rowAt w3 tb 34 Z.toArray := htb ▸ hw3 ▸ rowAt.new _ _ _; have H2 := Lib.hid (And.intro xl (And.intro xo (And.intro k2 (And.intro k3 (And.intro r3 (And.intro hX n3)))))); have HW := Lib.hid (And.intro hw3 htb); clear n1 n2 n3 k2 hX xl xo htb hw3 k3 r3)
    | (with_reducible refine wpList_alloc_to _ _ rfl 34 rfl _ HA.out.2.2.2.2.2.1 HW.out.1 ?_; rw [HW.out.2])
    | (refine wpList_store_mid rfl 34 (.tmp 5) (.tmp 12) rfl tb 0 X.toArray rfl rfl (H2.out.2.2.2.2.1.there (by rw [List.size_toArray, List.size_toArray, H2.out.1, HA.out.2.2.2.2.2.2.1]; exact Nat.le_refl _)) (by rw [List.size_toArray, H2.out.1]; exact info_pk) (all_oneCell_toArray H2.out.2.1) ?_))
  have k4 : keepBut [tb] w3 (w3.setCells tb 0 X) := (keepBut.refl [tb] w3).setL (.inl (by simp))
  have hwp : w.heap.size < p := by have := D1.out.2.1; have := HA.out.2.2.1.lt; omega
  have hpt : p < tb := by have := D1.out.1.lt; have := H2.out.2.2.1.size; have := HW.out.2; omega
  have rt : rowAt (w3.setCells tb 0 X) tb 34 X.toArray := by
    have := H2.out.2.2.2.2.1.setL (vs := X) (o := 0)
    rw [putL_all (by rw [List.size_toArray, H2.out.1, HA.out.2.2.2.2.2.2.1])] at this
    exact this
  have rz : rowAt (w3.setCells tb 0 X) w.heap.size 34 Z.toArray := k4.row (H2.out.2.2.2.1.row (H2.out.2.2.1.row (D1.out.2.2.2.row HA.out.2.2.1 (by simp)) (by simp; omega)) (by simp)) (by simp; omega)
  have kp : keepBut [] w (w3.setCells tb 0 X) := (((HA.out.2.1.then D1.out.2.2.2 (by simp)).then H2.out.2.2.1 (fun x hx => .inr (by simp at hx; omega))).then H2.out.2.2.2.1 (by simp)).then k4 (fun x hx => .inr (by simp at hx; omega))
  obtain ⟨w4, hw4⟩ : ∃ W, w3.setCells tb 0 X = W := ⟨_, rfl⟩
  rw [hw4] at k4 rt rz kp
  try rw [hw4]
  have rsZ : ∀ wx, rowAt wx w.heap.size 34 Z.toArray → rowAt (wx.setCells w.heap.size 0 Z) w.heap.size 34 Z.toArray := fun wx hh => by
    have := hh.setL (vs := Z) (o := 0)
    rw [putL_all (by rw [List.size_toArray])] at this
    exact this
  have bad : ∀ (c1 : Int) (wx : World), keepBut [] w wx → parsePk b = (pkZero, c1) → ∃ X G, Ending.returned (.tuple #[.agg Z.toArray, .int .i64 c1]) = .returned (.tuple #[.agg (X : List Value).toArray, .int .i64 (parsePk b).2]) ∧ itemV (wx.setCells w.heap.size 0 Z) G ((parsePk b).1, X) ∧ newIn w (wx.setCells w.heap.size 0 Z) G ∧ keepBut [] w (wx.setCells w.heap.size 0 Z) := by
    intro c1 wx hk he
    rw [he]
    exact ⟨Z, [], rfl, ⟨nilV, nilV, nilV, nilV, nilV, HA.out.2.2.2.2.2.2.2.1.symm, pkZero_val _ _⟩, by simp [newIn], hk.setL (.inr (Nat.le_refl _))⟩
  have iz : (Tryz.prog.info? 34).map (·.size) = some Z.toArray.size := by rw [List.size_toArray, HA.out.2.2.2.2.2.2.1]; exact info_pk
  have HR := Lib.hid (And.intro rsZ (And.intro bad (And.intro rz (And.intro kp (And.intro rt iz)))))
  have HK4 := Lib.hid (And.intro k4 (And.intro hwp hpt))
  clear rsZ bad rz kp rt k4 hwp hpt hw4 iz
  by_cases he : hdE b = 0
  · have he' : (hdE b == 0) = true := by simp [he]
    obtain ⟨hq, hrd⟩ := H2.out.2.2.2.2.2.2 he
    have hXq : pkL (hdS b).1 nilV nilV nilV nilV nilV = X := hq ▸ H2.out.2.2.2.2.2.1
    have rd4 : isR2 w4 p g (hdS b).2.1 := (hrd.keep H2.out.2.2.2.1 (by simp) (by simp)).keep HK4.out.1 (by have := HK4.out.2.2; simp; omega) (fun hne => by have := hrd.gl hne; have := HW.out.2; simp; omega)
    have hbd := body_any b p g w4 rd4 he (Nat.le_trans (hdS_short b) HA.out.2.2.2.2.1)
    unfold bodyOut at hbd
    rw [hXq] at hbd
    obtain ⟨S, hS⟩ : ∃ s, bdS (fieldsP (hdQ b).kind) (hdS b) = s := ⟨_, rfl⟩
    have pb := @parsePk_bad2 b he
    have pg := @parsePk_good b he
    rw [hS] at hbd pb pg
    have hfit : S.1.fits := by rw [← hS]; exact bdS_fits (hdS_fits b)
    have hgl : S.2.1.l ≠ [] → g < tb := fun hne => by rw [← hS] at hne; have := hrd.gl (bdS_left hne); have := HW.out.2; omega
    obtain ⟨E, hE⟩ : ∃ e, firstP S.2.2 S.2.1.e = e := ⟨_, rfl⟩
    rw [hE] at hbd pb pg
    have HBd := Lib.hid hbd
    have HEE := Lib.hid (And.intro hE (And.intro hfit hgl))
    have HPP := Lib.hid (And.intro pb pg)
    clear hbd pb pg hS hE hq hrd hXq rd4 he hfit hgl
    have kb : ∀ X5 : List Value, X5.length = 87 → ∀ w5 : World, keepBut [p] w4 w5 → rowAt w5 tb 34 X.toArray ∧ rowAt (w5.setCells tb 0 X5) tb 34 X5.toArray ∧ rowAt (w5.setCells tb 0 X5) w.heap.size 34 Z.toArray ∧ keepBut [] w (w5.setCells tb 0 X5) ∧ keepBut [tb] w5 (w5.setCells tb 0 X5) := fun X5 h5 w5 k5 => by
      have h1 := HK4.out.2.1
      have h2 := HK4.out.2.2
      have k6 : keepBut [tb] w5 (w5.setCells tb 0 X5) := (keepBut.refl [tb] w5).setL (.inl (by simp))
      have r5 := k5.row HR.out.2.2.2.2.1 (by simp; omega)
      have r6 := r5.setL (vs := X5) (o := 0)
      rw [putL_all (by rw [List.size_toArray, H2.out.1, h5])] at r6
      exact ⟨r5, r6, k6.row (k5.row HR.out.2.2.1 (by simp; omega)) (by simp; omega), (HR.out.2.2.2.1.then k5 (fun x hx => .inr (by simp at hx; omega))).then k6 (fun x hx => .inr (by simp at hx; omega)), k6⟩
    have HKB := Lib.hid kb
    clear kb
    go_upto_region 5 with (first
      | (refine wpList_load_mid rfl 34 (.tmp 5) rfl tb 0 rfl X _ HR.out.2.2.2.2.1.rangeAll Tryz.underlying34 rfl (by rw [H2.out.1]; exact info_pk) ?_)
      | (go_at_call 100; refine HBd.out.mono ?_; rintro e w5 ⟨X5, rfl, xl5, xo5, g5, k5⟩; have H5 := Lib.hid (And.intro xl5 (And.intro xo5 (And.intro g5 (HKB.out X5 xl5 w5 k5)))); clear xl5 xo5 g5 k5)
      | (refine wpList_store_mid rfl 34 (.tmp 5) (.tmp 20) rfl tb 0 X5.toArray rfl rfl (H5.out.2.2.2.1.there (by rw [List.size_toArray, List.size_toArray, H5.out.1, H2.out.1]; exact Nat.le_refl _)) (by rw [List.size_toArray, H5.out.1]; exact info_pk) (all_oneCell_toArray H5.out.2.1) ?_))
    have g6 := H5.out.2.2.2.2.2.1
    by_cases he : E = 0
    · subst he
      obtain ⟨G, i5, n5, r5⟩ := H5.out.2.2.1 rfl
      have hz := firstP_0 HEE.out.1
      have k6 := H5.out.2.2.2.2.2.2.2
      have htb : tb < w4.heap.size := HR.out.2.2.2.2.1.lt
      have hG : ∀ y ∈ G, tb < y ∧ w.heap.size < y ∧ y < w5.heap.size := fun y hy => by have h1 := n5 y hy; have h2 := HK4.out.2; omega
      have rd6 : isR2 (w5.setCells tb 0 X5) p g S.2.1 := r5.keep k6 (by have := HK4.out.2.2; simp; omega) (fun hne => by have := HEE.out.2.2 hne; simp; omega)
      have i6 : itemV (w5.setCells tb 0 X5) G (S.1, X5) := i5.keep k6 (fun y hy => by have := hG y hy; simp; omega)
      have HC := Lib.hid (checkDX G S.1 X5 _ i6 HEE.out.2.1)
      have r6 : rowAt (w5.setCells tb 0 X5) tb 34 X5.toArray := H5.out.2.2.2.2.1
      have rz6 : rowAt (w5.setCells tb 0 X5) w.heap.size 34 Z.toArray := g6
      have kp6 : keepBut [] w (w5.setCells tb 0 X5) := H5.out.2.2.2.2.2.2.1
      have hpg := HPP.out.2 rfl
      have i5x : (Tryz.prog.info? 34).map (·.size) = some X5.length := by rw [H5.out.1]; exact info_pk
      obtain ⟨w6, hw6⟩ : ∃ W, w5.setCells tb 0 X5 = W := ⟨_, rfl⟩
      have s56 := k6.size
      rw [hw6] at rd6 i6 HC r6 rz6 kp6 s56
      rw [hw6]
      have H6 := Lib.hid (And.intro rd6 (And.intro i6 (And.intro r6 (And.intro rz6 (And.intro kp6 (And.intro (fun y hy => (by have := hG y hy; omega : w.heap.size < y ∧ y < w6.heap.size) : ∀ y ∈ G, w.heap.size < y ∧ y < w6.heap.size) i5x))))))
      clear i5 n5 r5 k6 htb hG rd6 i6 r6 rz6 kp6 i5x hw6 s56 g6
      by_cases hl : S.2.1.end_ = 0
      · have hl' : (S.2.1.end_ != 0) = false := by simp [hl]
        cases hok : S.1.ok
        · have HP := Lib.hid (show parsePk b = (pkZero, 4) by rw [hpg, hl, hok]; rfl)
          have HK2 := Lib.hid hok
          clear hl hok hpg hz
          go_wp2_with (first
            | (go_at_call 101; refine (end2_any p g S.2.1 _ H6.out.1).mono ?_; rintro e wy ⟨rfl, rfl⟩)
            | (refine wpList_load_mid_g 34 (.tmp 5) rfl tb 0 rfl X5 _ H6.out.2.2.1.rangeAll Tryz.underlying34 rfl H6.out.2.2.2.2.2.2 ?_ ?_; · rfl)
            | (go_at_call 10; refine HC.out.mono ?_; rintro e w9 ⟨rfl, k9⟩; rw [HK2.out]; have R9 := Lib.hid (k9.row H6.out.2.2.2.1 (by simp)); have K9 := Lib.hid (H6.out.2.2.2.2.1.then k9 (by simp)); clear k9)
            | (refine wpList_store_mid rfl 34 (.tmp 2) (.tmp 34) rfl w.heap.size 0 Z.toArray rfl (by rw [← HA.out.2.2.2.2.2.2.2.1]; rfl) (R9.out.there (by omega)) HR.out.2.2.2.2.2 (all_oneCell_toArray HA.out.2.2.2.2.2.2.2.2) ?_))
          refine bodyPost_ret (results_row_tmp rfl _ _ w.heap.size 34 _ (0, 0) _ rfl (HR.out.1 _ R9.out) Tryz.underlying34 rfl HR.out.2.2.2.2.2) rfl ?_
          exact HR.out.2.1 _ _ K9.out HP.out
        · have HP := Lib.hid (show parsePk b = (S.1, 0) by rw [hpg, hl, hok]; rfl)
          have HK2 := Lib.hid hok
          clear hl hok hpg hz
          go_wp2_with (first
            | (go_at_call 101; refine (end2_any p g S.2.1 _ H6.out.1).mono ?_; rintro e wy ⟨rfl, rfl⟩)
            | (refine wpList_load_mid_g 34 (.tmp 5) rfl tb 0 rfl X5 _ H6.out.2.2.1.rangeAll Tryz.underlying34 rfl H6.out.2.2.2.2.2.2 ?_ ?_; · rfl)
            | (go_at_call 10; refine HC.out.mono ?_; rintro e w9 ⟨rfl, k9⟩; rw [HK2.out]; have R9 := Lib.hid (And.intro (k9.row H6.out.2.2.2.1 (by simp)) (k9.row H6.out.2.2.1 (by simp))); have K9 := Lib.hid (And.intro k9 (H6.out.2.2.2.2.1.then k9 (by simp))); clear k9)
            | (refine wpList_load_mid rfl 34 (.tmp 5) rfl tb 0 rfl X5 _ R9.out.2.rangeAll Tryz.underlying34 rfl H6.out.2.2.2.2.2.2 ?_)
            | (refine wpList_store_mid rfl 34 (.tmp 2) (.tmp 35) rfl w.heap.size 0 X5.toArray rfl rfl (R9.out.1.there (by rw [List.size_toArray, List.size_toArray, H5.out.1, HA.out.2.2.2.2.2.2.1]; exact Nat.le_refl _)) (by rw [List.size_toArray, H5.out.1]; exact info_pk) (all_oneCell_toArray H5.out.2.1) ?_))
          have rsX : rowAt (w9.setCells w.heap.size 0 X5) w.heap.size 34 X5.toArray := by
            have := R9.out.1.setL (vs := X5) (o := 0)
            rw [putL_all (by rw [List.size_toArray, HA.out.2.2.2.2.2.2.1, H5.out.1])] at this
            exact this
          refine bodyPost_ret (results_row_tmp rfl _ _ w.heap.size 34 _ (0, 0) _ rfl rsX Tryz.underlying34 rfl (by rw [List.size_toArray, H5.out.1]; exact info_pk)) rfl ?_
          have ks := (keepBut.refl [w.heap.size] w9).setL (vs := X5) (g := w.heap.size) (o := 0) (by simp)
          rw [HP.out]
          exact ⟨X5, G, rfl, (H6.out.2.1.keep K9.out.1 (by simp)).keep ks (fun y hy => by have := H6.out.2.2.2.2.2.1 y hy; simp; omega), fun y hy => ⟨by have := H6.out.2.2.2.2.2.1 y hy; omega, by have h1 := H6.out.2.2.2.2.2.1 y hy; have h2 := K9.out.1.size; have h3 := ks.size; omega⟩, K9.out.2.setL (.inr (Nat.le_refl _))⟩
      · have HP := Lib.hid (show parsePk b = (pkZero, 4) by
          have h4 : S.2.1.end_ = 4 := by unfold RS.end_ at hl ⊢; rw [if_pos hz.2] at hl ⊢; split at hl <;> simp_all
          rw [hpg, h4]; rfl)
        have hl' : (S.2.1.end_ != 0) = true := by simp [hl]
        clear hl hpg hz
        go_wp2_with (first
          | (go_at_call 101; refine (end2_any p g S.2.1 _ H6.out.1).mono ?_; rintro e wy ⟨rfl, rfl⟩)
          | (refine wpList_store_mid rfl 34 (.tmp 2) (.tmp 34) rfl w.heap.size 0 Z.toArray rfl (by rw [← HA.out.2.2.2.2.2.2.2.1]; rfl) (H6.out.2.2.2.1.there (by omega)) HR.out.2.2.2.2.2 (all_oneCell_toArray HA.out.2.2.2.2.2.2.2.2) ?_))
        refine bodyPost_ret (results_row_tmp rfl _ _ w.heap.size 34 _ (0, 0) _ rfl (HR.out.1 _ H6.out.2.2.2.1) Tryz.underlying34 rfl HR.out.2.2.2.2.2) rfl ?_
        exact HR.out.2.1 _ _ H6.out.2.2.2.2.1 HP.out
    · have HP := Lib.hid (HPP.out.1 he)
      have he2 : (E != 0) = true := by simp [he]
      clear he g6
      go_wp2_with (first
        | (refine wpList_store_mid rfl 34 (.tmp 2) (.tmp 24) rfl w.heap.size 0 Z.toArray rfl (by rw [← HA.out.2.2.2.2.2.2.2.1]; rfl) (H5.out.2.2.2.2.2.1.there (by omega)) HR.out.2.2.2.2.2 (all_oneCell_toArray HA.out.2.2.2.2.2.2.2.2) ?_))
      refine bodyPost_ret (results_row_tmp rfl _ _ w.heap.size 34 _ (0, 0) _ rfl (HR.out.1 _ H5.out.2.2.2.2.2.1) Tryz.underlying34 rfl HR.out.2.2.2.2.2) rfl ?_
      exact HR.out.2.1 _ _ H5.out.2.2.2.2.2.2.1 HP.out
  · have HP := Lib.hid (parsePk_bad he)
    have he1 : (hdE b == 0) = false := by simp [he]
    have he2 : (hdE b != 0) = true := by simp [he]
    clear he
    go_wp2_with (first
      | (refine wpList_store_mid rfl 34 (.tmp 2) (.tmp 24) rfl w.heap.size 0 Z.toArray rfl (by rw [← HA.out.2.2.2.2.2.2.2.1]; rfl) (HR.out.2.2.1.there (by omega)) HR.out.2.2.2.2.2 (all_oneCell_toArray HA.out.2.2.2.2.2.2.2.2) ?_))
    refine bodyPost_ret (results_row_tmp rfl _ _ w.heap.size 34 _ (0, 0) _ rfl (HR.out.1 _ HR.out.2.2.1) Tryz.underlying34 rfl HR.out.2.2.2.2.2) rfl ?_
    exact HR.out.2.1 _ _ HR.out.2.2.2.1 HP.out
end Go.Proofs.YthfdkonhjpdflaaGreatDoor
end
