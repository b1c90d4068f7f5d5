/-
  PACK: PackCut: a packet's bytes, cut anywhere, or with one behind them, tell no packet.
-/
import Derived.Test.YthfdkonhjpdflaaDoorPackBack
namespace Go.Proofs.YthfdkonhjpdflaaDoor
open Go.RowKit
set_option linter.unusedVariables false
set_option maxRecDepth 100000
set_option linter.unusedSimpArgs false

theorem aI_ge (b : Int) (l m : List UInt8) : l.length ≤ (aI b l m).length := by
  unfold aI
  split
  · exact Nat.le_refl _
  · rw [List.length_append]; omega
theorem be1_one (n : Nat) : (beBytes 1 n).length = 1 := be1 n
theorem pkB_three (p : PK) : 3 ≤ (pkB p).length := by
  have h0 : (pkH p).length = 3 := by unfold pkH; simp only [List.length_append, be1_one, List.length_nil]
  unfold pkB
  generalize fieldsP p.kind = f
  have h1 : 3 ≤ (pk1 p f).length := by rw [← h0]; exact aI_ge _ _ _
  have h2 : 3 ≤ (pk2 p f).length := Nat.le_trans h1 (aI_ge _ _ _)
  have h3 : 3 ≤ (pk3 p f).length := Nat.le_trans h2 (aI_ge _ _ _)
  have h4 : 3 ≤ (pk4 p f).length := Nat.le_trans h3 (aI_ge _ _ _)
  have h5 : 3 ≤ (pk5 p f).length := Nat.le_trans h4 (aI_ge _ _ _)
  have h6 : 3 ≤ (pk6 p f).length := Nat.le_trans h5 (aI_ge _ _ _)
  have h7 : 3 ≤ (pk7 p f).length := Nat.le_trans h6 (aI_ge _ _ _)
  have h8 : 3 ≤ (pk8 p f).length := Nat.le_trans h7 (aI_ge _ _ _)
  exact Nat.le_trans h8 (aI_ge _ _ _)
set_option maxHeartbeats 1000000 in
theorem cpO_any (F : List Nat) (v : Value) (l : List UInt8) (w : World) (h : bytesV w F v l) (hb : l.length ≤ 1000000) :
    Calls Tryd.prog 21 #[v] w fun e w' => ∃ A c, e = .returned (.slice A l.length c) ∧ owns w' 5 1 (.slice A l.length c) l.length (l.map bv) ∧ (∀ y ∈ homes (.slice A l.length c), w.heap.size ≤ y) ∧ keepBut [] w w' := by
  obtain ⟨A, c, g, rfl, h2, h3, h4, h5⟩ := h
  obtain ⟨i0, hi0, hz0, hz1, hz2⟩ := info_parts infoU8c
  have H := Lib.hid (And.intro (seen.reads h4) (owns.nil w 5 1))
  clear h4 h5 h3
  go_enter Tryd.func21, Tryd.ntmps21
  go_wp2_with (at_builtin; refine wp_append _ rfl _ _ 23 rfl 5 i0 (.int .u8 0) 1 1 Tryd.underlying23 hi0 hz0 hz1 hz2 rfl (by decide) (.slice none 0 0) 0 [] rfl H.out.2 A g l.length c _ (by simp [Act.eval]) H.out.1 (by intro u hu; simp at hu; obtain ⟨b, _, rfl⟩ := hu; rfl) (by omega) (by unfold maxLen; omega) ?_; intro A2 c2 w2 hown2 hkb2 hloc2)
  go_ret
  simp only [Nat.zero_add, List.nil_append] at hown2 hloc2 ⊢
  exact ⟨A2, c2, rfl, hown2, fun y hy => (hloc2 y hy).elim (fun h => by simp [homes_none] at h) id, hkb2.more (by simp [homes_none])⟩
/-- what is owned reads as bytes -/
theorem bytesV.owned {w : World} {A : Option Addr} {n c : Nat} {l : List UInt8} (h : owns w 5 1 (.slice A n c) n (l.map bv)) (hn : l.length = n) : bytesV w (homes (.slice A n c)) (.slice A n c) l := by
  obtain ⟨A3, c3, e3, h31, h32, h33, h34⟩ := h.form
  injection e3 with e3a e3b e3c
  subst e3a e3c
  obtain ⟨g3, hg3⟩ := homes_one (.slice A n c)
  refine ⟨A, c, g3, by rw [hn], by rw [hn]; exact h31, h32, reads.seenB (by rw [hn]; exact h34 g3 hg3), fun hne => ?_⟩
  obtain ⟨o, hA, _⟩ := (h34 g3 hg3).2 (by have := List.length_pos_iff.2 hne; omega)
  rw [hA]; simp [homes_some]
set_option maxHeartbeats 16000000 in
theorem packCut_law (F : List Nat) (s : SD) (v : Value) (a : Int) (w : World) (hs : SDok s) (hv : bytesV w F v s.b) (ha : (Lit.int .i64 a).wf = true) (hfl : fieldsAt w) :
    Calls Tryd.prog 5 #[.agg (sdL s v).toArray, .int .i64 a] w fun e w' => e = .returned (.bool true) ∧ keepBut [] w w' := by
  have hab : -9223372036854775808 ≤ a ∧ a ≤ 9223372036854775807 := by simpa [Lit.wf, IntKind.min, IntKind.max, IntKind.signed, IntKind.bits] using ha
  clear ha
  obtain ⟨Z, hZ⟩ : ∃ Z, pkL pkZero nilV nilV nilV nilV nilV = Z := ⟨_, rfl⟩
  have zv := zv_pk
  have zl := pkZ_len
  rw [hZ] at zv zl
  have HZ := Lib.hid (And.intro zv zl)
  clear zv zl hZ
  obtain ⟨Y, hY⟩ : ∃ Y, sdL s v = Y := ⟨_, rfl⟩
  obtain ⟨wA, hwA⟩ : ∃ wA, w.alloc (.cells Y.toArray 25) = wA := ⟨_, rfl⟩
  have rA := rowAt.new w 25 Y.toArray
  have kA := (keepBut.refl [] w).alloc (.cells Y.toArray 25)
  rw [hwA] at rA kA
  have HMD := Lib.hid (fun w1 (hb : bytesV w1 F v s.b) => (show Calls Tryd.prog 7 #[.agg Y.toArray] w1 (MADE s w1) by rw [← hY]; exact made_any F s v w1 hs hb))
  have hJs : (Tryd.prog.info? 25).map (·.size) = some Y.length := by rw [← hY]; exact info_sd
  have HW := Lib.hid hwA
  have HR := Lib.hid (And.intro rA (And.intro kA (And.intro hJs (And.intro (hfl.keep kA (by simp)) (hv.keep kA (by simp))))))
  rw [hY]
  obtain ⟨p, hp⟩ : ∃ p, madeP s = p := ⟨_, rfl⟩
  have hok := madeP_ok s
  have hbd := madeP_ends s
  rw [hp] at hok hbd
  obtain ⟨L, hL⟩ : ∃ L, (pkB p).length = L := ⟨_, rfl⟩
  have hL3 : 3 ≤ L := by rw [← hL]; exact pkB_three p
  have hL0 : (0 : Int) < (L : Int) := by omega
  obtain ⟨n, hn⟩ : ∃ n : Nat, a % (L : Int) = (n : Int) := ⟨(a % (L : Int)).toNat, by have := Int.emod_nonneg a (show (L : Int) ≠ 0 by omega); omega⟩
  have hnL : n < L := by have := Int.emod_lt_of_pos a hL0; omega
  have HN := Lib.hid hn
  have HP := Lib.hid (And.intro hp (And.intro hok (And.intro hbd.1 (And.intro hbd.2 hL))))
  clear hwA rA kA hJs hfl hv hY hp hok hbd hL hn
  go_enter Tryd.func5, Tryd.ntmps5
  go_upto_region 1 with fail
  rw [HW.out]
  go_upto_region 2 with (first
    | (refine wpList_load_mid rfl 25 (.tmp 2) rfl w.heap.size 0 rfl _ _ HR.out.1.rangeAll Tryd.underlying25 rfl HR.out.2.2.1 ?_)
    | (go_at_call 7; refine (HMD.out _ HR.out.2.2.2.2).mono ?_; intro e w2 hq; unfold MADE at hq; rw [HP.out.1] at hq; obtain ⟨ev, av, cv, vv, bw, G, rfl, q1, q2, q3⟩ := hq; have H2 := Lib.hid (And.intro q1 (And.intro (HR.out.2.1.then q3 (by simp)) (HR.out.2.2.2.1.keep q3 (by simp)))); clear q1 q2 q3)
    | (go_at_call 8; refine (bytes_any G p ev av cv vv bw _ H2.out.1 H2.out.2.2 HP.out.2.2.1 HP.out.2.2.2.1 HP.out.2.1).mono ?_; rintro e w4 ⟨u, G4, rfl, q1, q2, q3⟩; obtain ⟨A4, c4, g4, e4, hlc4, hcm4, sn4, gF4⟩ := id q1; rw [HP.out.2.2.2.2] at e4 hlc4; subst e4; have H4 := Lib.hid (And.intro q1 (And.intro (H2.out.2.1.then q3 (by simp)) (And.intro (H2.out.2.2.keep q3 (by simp)) sn4))); clear q1 q2 q3 sn4 gF4))
  have hpl : (pkB p).length ≤ 100000 := by have := (pk_lens HP.out.2.1 H2.out.1.rn H2.out.1.an).2.2.2.2.2.2.2.2.2; unfold pkB; omega
  have hL6 : L ≤ 100000 := by have := HP.out.2.2.2.2; omega
  have hcm4' : c4 ≤ 9223372036854775807 := by unfold maxLen at hcm4; omega
  have hne3 : ¬ ((L : Int) < 3) := by omega
  have hlcI : (n : Int) ≤ (c4 : Int) := by omega
  obtain ⟨E, hE⟩ : ∃ E, (parsePk ((pkB p).take n)).2 = E := ⟨_, rfl⟩
  have hE0 : E ≠ 0 := by rw [← hE]; exact parsePk_prefix HP.out.2.1 H2.out.1.rn H2.out.1.an (by rw [HP.out.2.2.2.2]; exact hnL)
  have hz1 : parsePk ((pkB p).take n) = (pkZero, E) := Prod.ext (parsePk_zero (by rw [hE]; exact hE0)) hE
  have hz2 : ∀ x, parsePk (pkB p ++ [x]) = (pkZero, 4) := fun x => by rw [parsePk_rest HP.out.2.1 H2.out.1.rn H2.out.1.an, if_neg (by simp)]
  obtain ⟨pz, hpz⟩ : ∃ q, pkZero = q := ⟨_, rfl⟩
  rw [hpz] at hz1
  simp only [hpz] at hz2
  clear hpz
  have HZ2 := Lib.hid hz2
  clear hz2
  have hbn : bytesV w4 [g4] (.slice A4 n c4) ((pkB p).take n) := ⟨A4, c4, g4, by rw [List.length_take, HP.out.2.2.2.2, Nat.min_eq_left (by omega)], by rw [List.length_take]; omega, hcm4, H4.out.2.2.2.take n, fun _ => by simp⟩
  have hEb : (E != 0) = true := by simpa using hE0
  have HE := Lib.hid (And.intro hz1 hbn)
  have HEb := Lib.hid hE0
  clear hz1 hbn hpl hE hE0
  go_upto_region 5 with (go_at_call 20; refine (bring_any a (L : Int) hab.1 hab.2 hL0 (by omega) _).mono ?_; rintro e w1 ⟨rfl, rfl⟩; rw [HN.out])
  go_upto_region 6 with (first
    | (go_at_call 9; refine (parsePk_any [g4] ((pkB p).take n) _ _ HE.out.2 (by rw [List.length_take]; omega) H4.out.2.2.1).mono ?_; intro e w5 hq; rw [HE.out.1] at hq; obtain ⟨ev5, av5, cv5, vv5, bw5, G5, rfl, q1, _, q3⟩ := hq; have H5 := Lib.hid (And.intro q1 (And.intro q3 (pkL_len (ev := ev5) (av := av5) (cv := cv5) (vv := vv5) (bw := bw5) q1.rn q1.an))); clear q1 q3)
    | (with_reducible refine wpList_alloc_to _ _ rfl 38 rfl _ HZ.out.1 rfl ?_)
    | (refine wpList_store_mid rfl 38 (.tmp 8) (.tmp 34) rfl w5.heap.size 0 (pkL pz ev5 av5 cv5 vv5 bw5).toArray rfl rfl (there_newP (by rw [H5.out.2.2]; exact HZ.out.2.symm)) (by rw [List.size_toArray, H5.out.2.2]; exact info_pk) (all_oneCell_toArray (pkL_one H5.out.1.re.one H5.out.1.ae.one H5.out.1.cc.one H5.out.1.vs.one H5.out.1.bs.one)) ?_))
  have hst := storedP (w := w5) (t := 38) (Z := Z) (X := pkL pz ev5 av5 cv5 vv5 bw5) (by rw [H5.out.2.2]; exact HZ.out.2.symm)
  obtain ⟨w6, hw6⟩ : ∃ w6, (w5.alloc (.cells Z.toArray 38)).setCells w5.heap.size 0 (pkL pz ev5 av5 cv5 vv5 bw5) = w6 := ⟨_, rfl⟩
  rw [hw6] at hst ⊢
  have k46 := H5.out.2.1.then hst.2 (by simp)
  have H6 := Lib.hid (And.intro (H4.out.1.keep k46 (by simp)) (And.intro (H4.out.2.1.then k46 (by simp)) (H4.out.2.2.1.keep k46 (by simp))))
  clear hst hw6 k46
  obtain ⟨x, hx⟩ : ∃ x : UInt8, Value.int .u8 (IntKind.u8.wrap a) = bv x := ⟨UInt8.ofNat (a % 256).toNat, by
    unfold bv
    have h1 : IntKind.u8.wrap a = a % 256 := IntKind.wrap_u8 a
    rw [h1, UInt8.toNat_ofNat']
    congr 1
    omega⟩
  have HX := Lib.hid hx
  obtain ⟨i0, hi0, hz0, hz1, hz2⟩ := info_parts infoU8c
  have HI := Lib.hid (And.intro hi0 (And.intro hz0 (And.intro hz1 hz2)))
  clear hi0 hz0 hz1 hz2 hx
  have hpl : (pkB p).length ≤ 1000000 := by have := HP.out.2.2.2.2; omega
  have HL := Lib.hid hpl
  clear hpl
  go_upto_region 7 with (first
    | (go_at_call 21; refine (cpO_any G4 (.slice A4 L c4) (pkB p) _ H6.out.1 HL.out).mono ?_; intro e w7 hq; rw [HP.out.2.2.2.2] at hq; obtain ⟨A7, c7, rfl, o7, h7, k7⟩ := hq; have H7 := Lib.hid (And.intro o7 (And.intro h7 k7)); clear o7 h7 k7)
    | (at_builtin; refine wp_append _ rfl (.tmp 38) (.tmp 41) 23 rfl 5 i0 (.int .u8 0) 1 1 Tryd.underlying23 HI.out.1 HI.out.2.1 HI.out.2.2.1 HI.out.2.2.2 rfl (by decide) (.slice A7 L c7) L ((pkB p).map bv) rfl (H7.out.1.alloc _) (some ⟨w7.heap.size, 0, none⟩) w7.heap.size 1 1 [.int .u8 (IntKind.u8.wrap a)] rfl (reads_one w7 _ _) (by intro u hu; simp at hu; subst hu; rfl) (by omega) (by unfold maxLen; omega) ?_; intro A8 c8 w8 o8 k8 l8; have k68 := ((H7.out.2.2.then ((keepBut.refl [] w7).alloc _) (by simp)).then k8 (fun y hy => .inr (H7.out.2.1 y hy))); have hb8 := bytesV.owned (l := pkB p ++ [x]) (by rw [List.map_append]; rw [HX.out] at o8; exact o8) (by rw [List.length_append, HP.out.2.2.2.2]; rfl); have H8 := Lib.hid (And.intro hb8 (And.intro (H6.out.2.1.then k68 (by simp)) (H6.out.2.2.keep k68 (by simp)))); clear o8 k8 l8 k68 hb8)
    | (go_at_call 9; refine (parsePk_any _ (pkB p ++ [x]) _ _ H8.out.1 (by rw [List.length_append, HP.out.2.2.2.2]; simp; omega) H8.out.2.2).mono ?_; intro e w9 hq; rw [HZ2.out x] at hq; obtain ⟨ev9, av9, cv9, vv9, bw9, G9, rfl, q1, _, q3⟩ := hq; have H9 := Lib.hid (And.intro q1 (And.intro q3 (pkL_len (ev := ev9) (av := av9) (cv := cv9) (vv := vv9) (bw := bw9) q1.rn q1.an))); clear q1 q3)
    | (with_reducible refine wpList_alloc_to _ _ rfl 38 rfl _ HZ.out.1 rfl ?_)
    | (refine wpList_store_mid rfl 38 (.tmp 10) (.tmp 44) rfl w9.heap.size 0 (pkL pz ev9 av9 cv9 vv9 bw9).toArray rfl rfl (there_newP (by rw [H9.out.2.2]; exact HZ.out.2.symm)) (by rw [List.size_toArray, H9.out.2.2]; exact info_pk) (all_oneCell_toArray (pkL_one H9.out.1.re.one H9.out.1.ae.one H9.out.1.cc.one H9.out.1.vs.one H9.out.1.bs.one)) ?_))
  have hst := storedP (w := w9) (t := 38) (Z := Z) (X := pkL pz ev9 av9 cv9 vv9 bw9) (by rw [H9.out.2.2]; exact HZ.out.2.symm)
  obtain ⟨w10, hw10⟩ : ∃ w10, (w9.alloc (.cells Z.toArray 38)).setCells w9.heap.size 0 (pkL pz ev9 av9 cv9 vv9 bw9) = w10 := ⟨_, rfl⟩
  rw [hw10] at hst ⊢
  have k810 := H9.out.2.1.then hst.2 (by simp)
  have H10 := Lib.hid (And.intro (H8.out.2.1.then k810 (by simp)) (H8.out.2.2.keep k810 (by simp)))
  clear hst hw10 k810
  go_wp2_with (go_at_call 6; refine (works_any _ H10.out.2).mono ?_; rintro e w11 ⟨rfl, k11⟩; have H11 := Lib.hid (H10.out.1.then k11 (by simp)); clear k11)
  go_ret
  exact ⟨rfl, H11.out⟩
end Go.Proofs.YthfdkonhjpdflaaDoor
