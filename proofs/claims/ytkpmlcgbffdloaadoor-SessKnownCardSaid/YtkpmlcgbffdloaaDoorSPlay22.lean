/-
  SESSPLAYS, 22: the law's step: what is taken; all of them.
-/
import Derived.Test.YtkpmlcgbffdloaaDoorSP20
import Derived.Test.YtkpmlcgbffdloaaDoorSP19
namespace Go.Proofs.YtkpmlcgbffdloaaDoor
open Go.RowKit
set_option linter.unusedVariables false
set_option maxRecDepth 100000
set_option linter.unusedSimpArgs false

set_option maxHeartbeats 8000000 in
theorem step_take {w0 w : World} {p q m : Nat} {s : SS} (h : lawB w0 w p q m s) {G : List Nat} {d : DO} {cv ev xe xa xc xv xb : Value} (hd : doV w0 G d cv ev xe xa xc xv xb) (hG : ∀ y ∈ G, y < w0.heap.size) (hk : ¬ d.kind % 8 < 5) :
    Calls Tryd.prog 11 #[.pointer (some ⟨p, 0, none⟩), .pointer (some ⟨m, 0, none⟩), .agg (doL d cv ev xe xa xc xv xb).toArray] w (stepPost w0 p q m) := by
  have x0 : (doL d cv ev xe xa xc xv xb).toArray[0]? = some (.int .i64 d.kind) := rfl
  have hXl : (doL d cv ev xe xa xc xv xb).length = 127 := doL_len hd.r.1 hd.p.rn hd.p.an
  have hfit := DO.pkt_fit d s (by obtain ⟨_, _, _, _, a, b, _⟩ := hd.p.ae; exact Nat.le_trans a b)
  have hPK := fun (W : World) (kW : keepBut [] w0 W) (hm : mOn [p, q] W m s) => packet_any [p, q] m s G d cv ev xe xa xc xv xb W hm (hd.over kW) (fun y hy => Nat.lt_of_lt_of_le (hG y hy) kW.size)
  obtain ⟨X, hX⟩ : ∃ X, doL d cv ev xe xa xc xv xb = X := ⟨_, rfl⟩
  rw [hX] at x0 hXl hPK ⊢
  have HPK := Lib.hid hPK
  have k1 := (keepBut.refl [] w).alloc (.cells X.toArray 46)
  have r1 := rowAt.new w 46 X.toArray
  obtain ⟨w1, hw1⟩ : ∃ w1, w.alloc (.cells X.toArray 46) = w1 := ⟨_, rfl⟩
  rw [hw1] at k1 r1
  obtain ⟨b, hbb⟩ : ∃ b, w.heap.size = b := ⟨_, rfl⟩
  rw [hbb] at r1
  have y0 : w1.cell? ⟨b, 0, none⟩ = some (.int .i64 d.kind) := (r1.cell 0).trans x0
  obtain ⟨kk, hkk⟩ : ∃ k, d.kind % 8 = k := ⟨_, rfl⟩
  rw [hkk] at hk
  have HBK := Lib.hid (fun W => bring_any d.kind 8 hd.k.1 hd.k.2 (by decide) (by decide) W)
  rw [hkk] at HBK
  have hk1 : 2 ≤ kk := by omega
  have hk2 : 5 ≤ kk := by omega
  have H1 := Lib.hid (And.intro h (And.intro (h.is.over k1) (And.intro (h.kept.then k1 (by simp)) (And.intro r1 (And.intro hXl (And.intro hfit hG))))))
  have HW := Lib.hid hw1
  obtain ⟨x, hx⟩ : ∃ x, d.pkt s = x := ⟨_, rfl⟩
  rw [hx] at HPK H1
  obtain ⟨Z, hZ⟩ : ∃ Z, pkL pkZero nilV nilV nilV nilV nilV = Z := ⟨_, rfl⟩
  have HZ := Lib.hid (show (Tryd.prog.info? 44).bind (·.zero) = some (.agg Z.toArray) ∧ Z.length = 87 by rw [← hZ]; exact ⟨zv_pk, pkZ_len⟩)
  obtain ⟨ZA, hZA⟩ : ∃ ZA, anL anZero nilV = ZA := ⟨_, rfl⟩
  have HZA := Lib.hid (show (Tryd.prog.info? 39).bind (·.zero) = some (.agg ZA.toArray) ∧ ZA.length = 38 by rw [← hZA]; exact ⟨zv_an, anZ_len⟩)
  clear h hd hkk k1 r1 hw1 hX x0 hk hXl hfit hG hx hZ hZA hPK
  go_enter Tryd.func11, Tryd.ntmps11
  go_upto_region 23 with (first
    | (with_reducible refine wpList_box_to _ _ rfl 46 (.tmp 2) rfl _ rfl HW.out ?_; try simp only [hbb])
    | (go_at_call 16; (with_reducible refine (HBK.out _).mono ?_); rintro e w' ⟨rfl, rfl⟩)
    | (refine wpList_load_mid rfl 46 (.tmp 5) rfl b 0 rfl X _ H1.out.2.2.2.1.rangeAll Tryd.underlying46 rfl (by rw [H1.out.2.2.2.2.1]; exact info_do) ?_)
    | (go_at_call 32; (with_reducible refine (HPK.out _ H1.out.2.2.1 H1.out.2.1.ref).mono ?_); rintro e w2 ⟨pe, pa, pc, pv, pb, rfl, hv2, k2⟩; obtain ⟨P, hP⟩ : ∃ P, pkL x pe pa pc pv pb = P := ⟨_, rfl⟩; have HP := Lib.hid (And.intro hP (And.intro (show P.length = 87 by rw [← hP]; exact pkL_len hv2.rn hv2.an) (show ∀ u ∈ P, u.oneCell' = true by rw [← hP]; exact pkL_one hv2.re.one hv2.ae.one hv2.cc.one hv2.vs.one hv2.bs.one))); rw [hP]; have H2 := Lib.hid (And.intro hv2 k2); have hs := storedP (w := w2) (t := 44) (Z := Z) (X := P) (by rw [HP.out.2.1, HZ.out.2]); have hth := there_newP (w := w2) (t := 44) (Z := Z) (X := P) (by rw [HP.out.2.1, HZ.out.2]); obtain ⟨c19, hc19⟩ : ∃ i, w2.heap.size = i := ⟨_, rfl⟩; rw [hc19] at hs hth; have HST := Lib.hid (And.intro hs (And.intro hth hc19)); clear hv2 k2 hP hs hth)
    | (with_reducible refine wpList_alloc_to _ _ rfl 44 rfl _ HZ.out.1 rfl ?_; try simp only [hc19])
    | (refine wpList_store_mid rfl 44 (.tmp 19) (.tmp 123) rfl c19 0 P.toArray rfl rfl HST.out.2.1 (by rw [List.size_toArray, HP.out.2.1]; exact info_pkS) (by simpa using HP.out.2.2) ?_))
  obtain ⟨⟨r3, k3⟩, _, _⟩ := HST.out
  generalize (w2.alloc (.cells Z.toArray 44)).setCells c19 0 P = w3 at r3 k3 ⊢
  have hs := storedP (w := w3) (t := 44) (Z := Z) (X := P) (by rw [HP.out.2.1, HZ.out.2])
  have hth := there_newP (w := w3) (t := 44) (Z := Z) (X := P) (by rw [HP.out.2.1, HZ.out.2])
  obtain ⟨c20, hc20⟩ : ∃ i, w3.heap.size = i := ⟨_, rfl⟩
  rw [hc20] at hs hth
  have H3 := Lib.hid (And.intro r3 (And.intro k3 (And.intro hs (And.intro hth hc20))))
  have HPS := Lib.hid (show (Tryd.prog.info? 44).map (·.size) = some P.length by rw [HP.out.2.1]; exact info_pkS)
  clear r3 k3 hs hth y0 hc19
  go_upto_region 24 with (first
    | (refine wpList_load_mid rfl 44 (.tmp 19) rfl c19 0 rfl P _ H3.out.1.rangeAll Tryd.underlying44 rfl HPS.out ?_)
    | (with_reducible refine wpList_alloc_to _ _ rfl 44 rfl _ HZ.out.1 rfl ?_; try simp only [hc20])
    | (refine wpList_store_mid rfl 44 (.tmp 20) (.tmp 124) rfl c20 0 P.toArray rfl rfl H3.out.2.2.2.1 (by rw [List.size_toArray, HP.out.2.1]; exact info_pkS) (by simpa using HP.out.2.2) ?_))
  obtain ⟨r4, k4⟩ := H3.out.2.2.1
  generalize (w3.alloc (.cells Z.toArray 44)).setCells c20 0 P = w4 at r4 k4 ⊢
  have r19 := k4.row H3.out.1 (by simp)
  have hv4 : pkV w4 G x pe pa pc pv pb := (H2.out.1.over H3.out.2.1).over k4
  obtain ⟨CX, hCX⟩ : ∃ C, cfL x.conf pc = C := ⟨_, rfl⟩
  obtain ⟨AX, hAX⟩ : ∃ C, anL x.ans pa = C := ⟨_, rfl⟩
  have HCX := Lib.hid (show CX.length = 3 ∧ AX.length = 38 by rw [← hCX, ← hAX]; exact ⟨rfl, anL_len hv4.an⟩)
  have HRG := Lib.hid (show ∀ W, rowAt W c19 44 P.toArray → W.rangeAt c19 82 CX ∧ W.rangeAt c19 44 AX from fun W hW => ⟨hW.range (fun j v hv => by rw [← HP.out.1]; exact pkL_tail hv4.rn hv4.an j v (by rw [List.getElem?_append_left (by rw [hCX]; exact (List.getElem?_eq_some_iff.1 hv).1), hCX]; exact hv)), hW.range (fun j v hv => by rw [← HP.out.1]; exact pkL_ans hv4.rn j v (by rw [hAX]; exact hv))⟩)
  have HCF := Lib.hid (copyConfD_any G x.conf pc w4 hv4.cc (Nat.le_trans H1.out.2.2.2.2.2.1.2 (by decide)))
  rw [hCX] at HCF
  have HR4 := Lib.hid (HRG.out w4 r19).1
  have H4 := Lib.hid (And.intro r4 (And.intro k4 (And.intro r19 hv4)))
  have HAX := Lib.hid hAX
  clear r4 k4 r19 hv4 hCX hAX hc20
  go_upto_region 25 with (first
    | (refine wpList_load_mid rfl 41 (.tmp 125) rfl c19 82 rfl CX _ HR4.out Tryd.underlying41 rfl (by rw [HCX.out.1]; exact info_cf) ?_)
    | (go_at_call 33; (with_reducible refine HCF.out.mono ?_); rintro e w5 ⟨cv5, rfl, G5, hv5, hn5, k5⟩; obtain ⟨C5, hC5⟩ : ∃ C, cfL x.conf cv5 = C := ⟨_, rfl⟩; have HC5 := Lib.hid (And.intro hC5 (And.intro (show C5.length = 3 by rw [← hC5]; rfl) (show ∀ u ∈ C5, u.oneCell' = true by rw [← hC5]; exact cfL_one _ hv5.one))); rw [hC5]; have r5 := k5.row H4.out.1 (by simp); have HT5 := Lib.hid (r5.there (o := 82) (n := 3) (by rw [List.size_toArray, HP.out.2.1]; decide)); have H5 := Lib.hid (And.intro hv5 (And.intro hn5 (And.intro k5 r5))); clear hv5 hn5 k5 r5 hC5)
    | (refine wpList_store_mid rfl 41 (.tmp 128) (.tmp 127) rfl c20 82 C5.toArray rfl rfl (by rw [List.size_toArray, HC5.out.2.1]; exact HT5.out) (by rw [List.size_toArray, HC5.out.2.1]; exact info_cf) (by simpa using HC5.out.2.2) ?_))
  have r6 := H5.out.2.2.2.setL (vs := C5) (o := 82)
  have k6 : keepBut [c20] w5 (w5.setCells c20 82 C5) := (keepBut.refl _ _).setL (.inl (by simp))
  generalize w5.setCells c20 82 C5 = w6 at r6 k6 ⊢
  rw [← HP.out.1, ← HC5.out.1, pkL_put82 H2.out.1.rn H2.out.1.an] at r6
  have h0c : w0.heap.size ≤ c20 ∧ c19 < c20 ∧ w1.heap.size ≤ c19 ∧ p < w1.heap.size ∧ q < w1.heap.size ∧ m < w1.heap.size := by
    have a := H1.out.2.2.1.size
    have a2 := H2.out.2.size
    have a3 := H3.out.2.1.size
    have a4 := H3.out.1.lt
    have a5 := H3.out.2.2.2.2
    have a6 := HST.out.2.2
    have a7 := H1.out.2.1.on.lt
    have a8 := H1.out.2.1.ref.lt
    omega
  have hGc : ∀ y ∈ G, y ∉ [c20] := fun y hy hm => by have a := H1.out.2.2.2.2.2.2 y hy; simp only [List.mem_singleton] at hm; omega
  have k46 : keepBut [c20] w4 w6 := (H5.out.2.2.1.more (by simp)).then k6 (fun y hy => .inl hy)
  have HCA := Lib.hid (copyAnsD_any G x.ans pa w6 ⟨H4.out.2.2.2.an, H4.out.2.2.2.ae.keep k46 hGc⟩ (Nat.le_trans H1.out.2.2.2.2.2.1.1 (by decide)))
  rw [HAX.out] at HCA
  have r19' := k46.row H4.out.2.2.1 (by simp only [List.mem_singleton]; omega)
  have HR6 := Lib.hid (HRG.out w6 r19').2
  obtain ⟨P6, hP6⟩ : ∃ P, pkL x pe pa cv5 pv pb = P := ⟨_, rfl⟩
  rw [hP6] at r6
  have HP6 := Lib.hid (show pkL x pe pa cv5 pv pb = P6 ∧ P6.length = 87 from ⟨hP6, by rw [← hP6]; exact pkL_len H2.out.1.rn H2.out.1.an⟩)
  have H6 := Lib.hid (And.intro r6 (And.intro k46 (And.intro k6 (And.intro r19' (And.intro h0c hGc)))))
  clear r6 k6 k46 r19' h0c hGc hP6
  go_upto_region 26 with (first
    | (refine wpList_load_mid rfl 39 (.tmp 129) rfl c19 44 rfl AX _ HR6.out Tryd.underlying39 rfl (by rw [HCX.out.2]; exact info_anS) ?_)
    | (go_at_call 34; (with_reducible refine HCA.out.mono ?_); rintro e w7 ⟨av7, rfl, G7, hv7, hn7, k7⟩; obtain ⟨A7, hA7⟩ : ∃ C, anL x.ans av7 = C := ⟨_, rfl⟩; have HA7 := Lib.hid (And.intro hA7 (And.intro (show A7.length = 38 by rw [← hA7]; exact anL_len hv7.1) (show ∀ u ∈ A7, u.oneCell' = true by rw [← hA7]; exact anL_one _ hv7.2.one))); rw [hA7]; have r7 := k7.row H6.out.1 (by simp); have HT7 := Lib.hid (r7.there (o := 44) (n := 38) (by rw [List.size_toArray, HP6.out.2]; decide)); have H7 := Lib.hid (And.intro hv7 (And.intro hn7 (And.intro k7 r7))); clear hv7 hn7 k7 r7 hA7)
    | (refine wpList_store_mid rfl 39 (.tmp 132) (.tmp 131) rfl c20 44 A7.toArray rfl rfl (by rw [List.size_toArray, HA7.out.2.1]; exact HT7.out) (by rw [List.size_toArray, HA7.out.2.1]; exact info_anS) (by simpa using HA7.out.2.2) ?_))
  have r8 := H7.out.2.2.2.setL (vs := A7) (o := 44)
  have k8 : keepBut [c20] w7 (w7.setCells c20 44 A7) := (keepBut.refl _ _).setL (.inl (by simp))
  generalize w7.setCells c20 44 A7 = w8 at r8 k8 ⊢
  rw [← HP6.out.1, ← HA7.out.1, pkL_put44 H2.out.1.rn H2.out.1.an] at r8
  have h0c := H6.out.2.2.2.2.1
  have hGc := H6.out.2.2.2.2.2
  have k68 : keepBut [c20] w6 w8 := (H7.out.2.2.1.more (by simp)).then k8 (fun y hy => .inl hy)
  have k58 : keepBut [c20] w5 w8 := H6.out.2.2.1.then k68 (fun y hy => .inl hy)
  have k48 : keepBut [c20] w4 w8 := H6.out.2.1.then k68 (fun y hy => .inl hy)
  have K38 : keepBut [] w3 w8 := H4.out.2.1.then k48 (fun y hy => .inr (by simp only [List.mem_singleton] at hy; subst hy; exact Nat.le_of_eq H3.out.2.2.2.2))
  have K13 := H2.out.2.then H3.out.2.1 (by simp)
  have K08 := (H1.out.2.2.1.then K13 (by simp)).then K38 (by simp)
  have hG5 : ∀ y ∈ G5, c20 < y ∧ y < w8.heap.size := fun y hy => by have a := H5.out.2.1 y hy; have b := H4.out.1.lt; have c := k58.size; omega
  have hG7 : ∀ y ∈ G7, c20 < y ∧ y < w8.heap.size := fun y hy => by have a := H7.out.2.1 y hy; have b := H6.out.1.lt; have c := k8.size; omega
  have hb8 : both ([] ++ G5) w8 p q m s := (H1.out.2.1.over K13).also K38 (fun y hy => by have a := hG5 y hy; have b := H3.out.2.2.2.2; omega)
  have hv8 : pkV w8 (G ++ (G5 ++ G7)) x pe av7 cv5 pv pb := ⟨H4.out.2.2.2.rn, H4.out.2.2.2.an, (H4.out.2.2.2.re.keep k48 hGc).more (by simp +contextual), (H7.out.1.2.keep k8 (fun y hy hm => by have a := hG7 y hy; simp only [List.mem_singleton] at hm; omega)).more (by simp +contextual), (H5.out.1.keep k58 (fun y hy hm => by have a := hG5 y hy; simp only [List.mem_singleton] at hm; omega)).more (by simp +contextual), (H4.out.2.2.2.vs.keep k48 hGc).more (by simp +contextual), (H4.out.2.2.2.bs.keep k48 hGc).more (by simp +contextual)⟩
  have hGp : ∀ y ∈ G ++ (G5 ++ G7), y ≠ p := fun y hy => by
    have z := H1.out.1.far.1
    rcases List.mem_append.1 hy with hy | hy
    · have a := H1.out.2.2.2.2.2.2 y hy; omega
    · rcases List.mem_append.1 hy with hy | hy
      · have a := hG5 y hy; omega
      · have a := hG7 y hy; omega
  have hle : x.ans.env.length ≤ 1000000 ∧ x.conf.chain.length ≤ 1000000 := ⟨Nat.le_trans H1.out.2.2.2.2.2.1.1 (by decide), Nat.le_trans H1.out.2.2.2.2.2.1.2 (by decide)⟩
  have HTA := Lib.hid (hb8.on.take hv8 hGp hle.1 hle.2)
  obtain ⟨Y8, hY8⟩ : ∃ P, pkL x pe av7 cv5 pv pb = P := ⟨_, rfl⟩
  rw [hY8] at HTA r8
  have hY8l : Y8.length = 87 := by rw [← hY8]; exact pkL_len H2.out.1.rn H2.out.1.an
  have r19 := k68.row H6.out.2.2.2.1 (by simp only [List.mem_singleton]; omega)
  have ht8 := H5.out.1.turns H5.out.2.1
  have c84 : Y8.toArray[84]? = some cv5 := by rw [← hY8]; exact pkL_tail H2.out.1.rn H2.out.1.an 2 _ rfl
  obtain ⟨tk, htk⟩ : ∃ t, s.takeP x = t := ⟨_, rfl⟩
  rw [htk] at HTA
  have HY8 := Lib.hid (And.intro r8.rangeAll (show (Tryd.prog.info? 44).map (·.size) = some Y8.length by rw [hY8l]; exact info_pkS))
  have H8 := Lib.hid (And.intro r8 (And.intro r19 (And.intro k48 (And.intro k58 (And.intro K08 (And.intro hb8 (And.intro hG5 (And.intro c84 (And.intro ht8 (And.intro hle htk))))))))))
  clear r8 k8 k68 k58 k48 K38 K13 K08 hG5 hG7 hb8 hv8 hGp hle hY8 hY8l r19 ht8 c84 htk h0c hGc
  go_upto_region 27 with (first
    | (refine wpList_load_mid rfl 44 (.tmp 20) rfl c20 0 rfl Y8 _ HY8.out.1 Tryd.underlying44 rfl HY8.out.2 ?_)
    | (go_at_call 17; (with_reducible refine HTA.out.mono ?_); rintro e w9 ⟨av9, G9, rfl, hv9, hn9, ho9, k9⟩; obtain ⟨N9, hN9⟩ : ∃ C, anL tk.1.1 av9 = C := ⟨_, rfl⟩; have HN9 := Lib.hid (And.intro hN9 (And.intro (show N9.length = 38 by rw [← hN9]; exact anL_len hv9.1) (show ∀ u ∈ N9, u.oneCell' = true by rw [← hN9]; exact anL_one _ hv9.2.one))); rw [hN9]; have H9 := Lib.hid (And.intro hv9 (And.intro hn9 (And.intro ho9 k9))); have hs := storedP (w := w9) (t := 39) (Z := ZA) (X := N9) (by rw [HN9.out.2.1, HZA.out.2]); have hth := there_newP (w := w9) (t := 39) (Z := ZA) (X := N9) (by rw [HN9.out.2.1, HZA.out.2]); obtain ⟨c21, hc21⟩ : ∃ i, w9.heap.size = i := ⟨_, rfl⟩; rw [hc21] at hs hth; have HSA := Lib.hid (And.intro hs (And.intro hth hc21)); clear hv9 hn9 ho9 k9 hN9 hs hth)
    | (with_reducible refine wpList_alloc_to _ _ rfl 39 rfl _ HZA.out.1 rfl ?_; try simp only [hc21])
    | (refine wpList_store_mid rfl 39 (.tmp 21) (.tmp 137) rfl c21 0 N9.toArray rfl rfl HSA.out.2.1 (by rw [List.size_toArray, HN9.out.2.1]; exact info_anS) (by simpa using HN9.out.2.2) ?_))
  obtain ⟨⟨r10, k10⟩, _, _⟩ := HSA.out
  generalize (w9.alloc (.cells ZA.toArray 39)).setCells c21 0 N9 = w10 at r10 k10 ⊢
  have h0c := H6.out.2.2.2.2.1
  have hGc := H6.out.2.2.2.2.2
  have k8p : keepBut [p] w8 w10 := H9.out.2.2.2.then k10 (by simp)
  have k4p : keepBut [c20, p] w4 w10 := (H8.out.2.2.1.more (by simp)).then k8p (fun y hy => .inl (by simp only [List.mem_singleton] at hy; simp [hy]))
  have hGp : ∀ y ∈ G, y ∉ [c20, p] := fun y hy hm => by have a := H1.out.2.2.2.2.2.2 y hy; have z := H1.out.1.far.1; simp only [List.mem_cons, List.not_mem_nil, or_false] at hm; omega
  have hv10 : pkV w10 G x pe pa pc pv pb := H4.out.2.2.2.keep k4p hGp
  have hm10 : mOn (p :: q :: G5) w10 m s := H8.out.2.2.2.2.2.1.ref.keep k8p (by simp)
  have HTB := Lib.hid (hm10.take hv10 (fun y hy => by have a := H1.out.2.2.2.2.2.2 y hy; have z := H1.out.1.far.2.2; omega) H8.out.2.2.2.2.2.2.2.2.2.1.1 H8.out.2.2.2.2.2.2.2.2.2.1.2)
  rw [HP.out.1, H8.out.2.2.2.2.2.2.2.2.2.2] at HTB
  have r19 := k8p.row H8.out.2.1 (by simp only [List.mem_singleton]; omega)
  have r20 := k8p.row H8.out.1 (by simp only [List.mem_singleton]; omega)
  have hR19 := Lib.hid r19.rangeAll
  have H10 := Lib.hid (And.intro r10 (And.intro k10 (And.intro k8p (And.intro r20 (And.intro (H9.out.1.2.keep k10 (by simp)) (H9.out.2.2.1.over k10))))))
  clear r10 k10 k8p k4p hGp hv10 hm10 r19 r20 h0c hGc hc21
  go_wp2_with (first
    | (refine wpList_load_mid rfl 44 (.tmp 19) rfl c19 0 rfl P _ hR19.out Tryd.underlying44 rfl HPS.out ?_)
    | (go_at_call 35; (with_reducible refine HTB.out.mono ?_); rintro e w11 ⟨av11, G11, rfl, hv11, hn11, ho11, k11⟩; obtain ⟨N11, hN11⟩ : ∃ C, anL tk.1.1 av11 = C := ⟨_, rfl⟩; have HN11 := Lib.hid (And.intro hN11 (And.intro (show N11.length = 38 by rw [← hN11]; exact anL_len hv11.1) (show ∀ u ∈ N11, u.oneCell' = true by rw [← hN11]; exact anL_one _ hv11.2.one))); rw [hN11]; have H11 := Lib.hid (And.intro hv11 (And.intro hn11 (And.intro ho11 k11))); have hs := storedP (w := w11) (t := 39) (Z := ZA) (X := N11) (by rw [HN11.out.2.1, HZA.out.2]); have hth := there_newP (w := w11) (t := 39) (Z := ZA) (X := N11) (by rw [HN11.out.2.1, HZA.out.2]); obtain ⟨c23, hc23⟩ : ∃ i, w11.heap.size = i := ⟨_, rfl⟩; rw [hc23] at hs hth; have HSB := Lib.hid (And.intro hs (And.intro hth hc23)); clear hv11 hn11 ho11 k11 hN11 hs hth)
    | (with_reducible refine wpList_alloc_to _ _ rfl 39 rfl _ HZA.out.1 rfl ?_; try simp only [hc23])
    | (refine wpList_store_mid rfl 39 (.tmp 23) (.tmp 143) rfl c23 0 N11.toArray rfl rfl HSB.out.2.1 (by rw [List.size_toArray, HN11.out.2.1]; exact info_anS) (by simpa using HN11.out.2.2) ?_))
  obtain ⟨⟨r12, k12⟩, _, _⟩ := HSB.out
  generalize (w11.alloc (.cells ZA.toArray 39)).setCells c23 0 N11 = w12 at r12 k12 ⊢
  have h0c := H6.out.2.2.2.2.1
  have hcs : c20 < c21 ∧ c21 < c23 ∧ w8.heap.size ≤ c21 ∧ w8.heap.size ≤ w10.heap.size ∧ w1.heap.size ≤ w8.heap.size ∧ w0.heap.size ≤ w8.heap.size := by
    have a1 := H8.out.1.lt
    have a2 := H9.out.2.2.2.size
    have a3 := HSA.out.2.2
    have a4 := H10.out.1.lt
    have a5 := H11.out.2.2.2.size
    have a6 := HSB.out.2.2
    have a7 := H10.out.2.1.size
    have a8 := H8.out.2.2.2.2.1.size
    omega
  have k1012 : keepBut [m] w10 w12 := H11.out.2.2.2.then k12 (by simp)
  have k812 : keepBut [c20, p, m] w5 w12 := ((H8.out.2.2.2.1.more (T := [c20, p, m]) (by simp)).then H10.out.2.2.1 (fun y hy => .inl (by simp only [List.mem_singleton] at hy; simp [hy]))).then k1012 (fun y hy => .inl (by simp only [List.mem_singleton] at hy; simp [hy]))
  have K12 : keepBut [] w0 w12 := (H8.out.2.2.2.2.1.then H10.out.2.2.1 (fun y hy => .inr (by simp only [List.mem_singleton] at hy; subst hy; exact H1.out.1.far.1))).then k1012 (fun y hy => .inr (by simp only [List.mem_singleton] at hy; subst hy; exact H1.out.1.far.2.2))
  have r20 := k1012.row H10.out.2.2.2.1 (by simp only [List.mem_singleton]; omega)
  have r21 := k1012.row H10.out.1 (by simp only [List.mem_singleton]; omega)
  have hb12 : both G5 w12 p q m tk.2 := ⟨H10.out.2.2.2.2.2.keep k1012 (by simp), H11.out.2.2.1.over k12⟩
  have hG5 := H8.out.2.2.2.2.2.2.1
  have hG9 : ∀ y ∈ G9, y ∉ [m] ∧ y ∉ G5 := fun y hy => by
    have a := (H9.out.2.1 y hy).1
    exact ⟨by simp only [List.mem_singleton]; omega, fun hm => by have b := (hG5 y hm).2; omega⟩
  have hG11 : ∀ y ∈ G11, y ∉ G5 := fun y hy hm => by
    have a := (H11.out.2.1 y hy).1
    have b := (hG5 y hm).2
    omega
  have an9 : anV w12 G9 tk.1.1 av9 := ⟨H9.out.1.1, H10.out.2.2.2.2.1.keep k1012 (fun y hy => (hG9 y hy).1)⟩
  have an11 : anV w12 G11 tk.1.1 av11 := ⟨H11.out.1.1, H11.out.1.2.keep k12 (by simp)⟩
  obtain ⟨A, c, hcv, hA1, hA2, ht⟩ := H8.out.2.2.2.2.2.2.2.2.1
  subst hcv
  have ht12 : turnsI .i64 w4 w12 A x.conf.chain.length G5 := ht.keep k812 (fun y hy hm => by have a := hG5 y hy; have b := (H5.out.2.1 y hy).1; simp only [List.mem_cons, List.not_mem_nil, or_false] at hm; have e := H4.out.1.lt; omega)
  obtain ⟨n, hn⟩ : ∃ n, x.conf.chain.length = n := ⟨_, rfl⟩
  have c84 := H8.out.2.2.2.2.2.2.2.1
  rw [hn] at ht12 hA1 c84
  have hnm : n ≤ 9223372036854775807 := by unfold maxLen at hA2; omega
  have hGf : ∀ y ∈ G5, w0.heap.size ≤ y := fun y hy => by have a := hG5 y hy; omega
  have H12 := Lib.hid (And.intro r20 (And.intro r21 (And.intro r12 (And.intro K12 (And.intro ht12 (And.intro c84 (And.intro hGf (And.intro hb12 (And.intro an9 (And.intro an11 (And.intro hG9 (And.intro hG11 (And.intro hG5 hcs)))))))))))))
  have hbb2 : (tk.1.2 == tk.1.2) = true := by simp
  have HLS := Lib.hid (show (Tryd.prog.info? 39).map (·.size) = some N9.length ∧ (Tryd.prog.info? 39).map (·.size) = some N11.length by rw [HN9.out.2.1, HN11.out.2.1]; exact ⟨info_anS, info_anS⟩)
  clear h0c hcs k1012 k812 K12 r20 r21 r12 hb12 hG5 hG9 hG11 an9 an11 ht ht12 hn c84 hA1 hA2 hGf k12 hc23 hR19
  go_loopw [25] (fun v25 wx => takeRel w0 w4 w12 c20 c21 c23 Y8 N9 N11 A n G5 v25 wx) (fun v25 _ => n - (intOf v25).toNat)
  case atStart => exact ⟨0, Nat.zero_le _, rfl, Lib.hid ⟨H12.out.1, H12.out.2.1, H12.out.2.2.1, keepBut.refl _ _, H12.out.2.2.2.1, H12.out.2.2.2.2.1⟩⟩
  case round =>
    obtain ⟨i, hil, rfl, HI⟩ := hrel
    have c84 : wr.cell? ⟨c20, 84, none⟩ = some (.slice A n c) := (HI.out.1.cell 84).trans H12.out.2.2.2.2.2.1
    by_cases hlt : i < n
    · obtain ⟨g, o, rfl, hg1, hg2, hg3, hg4⟩ := HI.out.2.2.2.2.2 (by omega)
      obtain ⟨z, hz⟩ := hg4 i hlt
      have hfr := HI.out.2.2.2.2.1.free (H12.out.2.2.2.2.2.2.1 g hg1) (o + i)
      have hi2 : (i : Int) < (n : Int) := by omega
      have hi0 : (0 : Int) ≤ (i : Int) := by omega
      have hwi : IntKind.i64.wrap ((i : Int) + 1) = (i : Int) + 1 := by rw [IntKind.wrap_i64]; omega
      have HG := Lib.hid hg1
      clear hg1 hg2 hg3 hg4
      go_wp2_with fail
      go_roundw
      case rel =>
        have kk2 : keepBut G5 wr (wr.setCell ⟨g, o + i, none⟩ (.int .i64 (-5))) := (keepBut.refl G5 wr).setCell _ _ (.inl HG.out)
        have hG5 := H12.out.2.2.2.2.2.2.2.2.2.2.2.2.1
        have hcs := H12.out.2.2.2.2.2.2.2.2.2.2.2.2.2
        exact ⟨i + 1, by omega, by go_num, Lib.hid ⟨kk2.row HI.out.1 (fun hm => by have := hG5 _ hm; omega), kk2.row HI.out.2.1 (fun hm => by have := hG5 _ hm; omega), kk2.row HI.out.2.2.1 (fun hm => by have := hG5 _ hm; omega), HI.out.2.2.2.1.then kk2 (fun x hx => .inl hx), HI.out.2.2.2.2.1.setCell _ _ (.inr (H12.out.2.2.2.2.2.2.1 g HG.out)), HI.out.2.2.2.2.2.set hlt⟩⟩
      case measure => simp only [intOf]; omega
    · obtain rfl : i = n := by omega
      have an9 : anV wr G9 tk.1.1 av9 := ⟨H12.out.2.2.2.2.2.2.2.2.1.1, H12.out.2.2.2.2.2.2.2.2.1.2.keep HI.out.2.2.2.1 (fun y hy => (H12.out.2.2.2.2.2.2.2.2.2.2.1 y hy).2)⟩
      have an11 : anV wr G11 tk.1.1 av11 := ⟨H12.out.2.2.2.2.2.2.2.2.2.1.1, H12.out.2.2.2.2.2.2.2.2.2.1.2.keep HI.out.2.2.2.1 (H12.out.2.2.2.2.2.2.2.2.2.2.2.1)⟩
      have HSM := Lib.hid (sameAnsR G9 G11 tk.1.1 av9 av11 wr an9 an11)
      rw [HN9.out.1, HN11.out.1] at HSM
      clear an9 an11
      go_wp2_with (first
        | (refine wpList_load_mid rfl 39 (.tmp 21) rfl c21 0 rfl N9 _ HI.out.2.1.rangeAll Tryd.underlying39 rfl HLS.out.1 ?_)
        | (refine wpList_load_mid rfl 39 (.tmp 23) rfl c23 0 rfl N11 _ HI.out.2.2.1.rangeAll Tryd.underlying39 rfl HLS.out.2 ?_)
        | (go_at_call 36; (with_reducible refine HSM.out.mono ?_); rintro e w13 ⟨rfl, k13⟩; have H13 := Lib.hid k13; clear k13))
      go_ret
      refine ⟨rfl, tk.2, ((H12.out.2.2.2.2.2.2.2.1.keep HI.out.2.2.2.1 (fun y hy => hy)).over H13.out).less (by simp), HI.out.2.2.2.2.1.then H13.out (by simp), H1.out.1.far, H1.out.1.sz⟩
theorem step_any {w0 w : World} {p q m : Nat} {s : SS} (h : lawB w0 w p q m s) {G : List Nat} {d : DO} {cv ev xe xa xc xv xb : Value} (hd : doV w0 G d cv ev xe xa xc xv xb) (hG : ∀ y ∈ G, y < w0.heap.size) :
    Calls Tryd.prog 11 #[.pointer (some ⟨p, 0, none⟩), .pointer (some ⟨m, 0, none⟩), .agg (doL d cv ev xe xa xc xv xb).toArray] w (stepPost w0 p q m) := by
  by_cases h2 : d.kind % 8 < 2
  · exact step_ask h hd h2
  · by_cases h5 : d.kind % 8 < 5
    · exact step_tick h hd h2 h5
    · exact step_take h hd hG h5
theorem lawB.same {w0 w : World} {p q m : Nat} {s : SS} (h : lawB w0 w p q m s) :
    Calls Tryd.prog 12 #[.pointer (some ⟨p, 0, none⟩), .pointer (some ⟨m, 0, none⟩)] w (fun e w' => e = .returned (.bool true) ∧ lawB w0 w' p q m s) := by
  refine (same_any h.is).mono ?_
  rintro e w' ⟨rfl, h2, k2⟩
  exact ⟨rfl, h2, h.kept.then k2 (by simp), h.far, h.sz⟩
end Go.Proofs.YtkpmlcgbffdloaaDoor
