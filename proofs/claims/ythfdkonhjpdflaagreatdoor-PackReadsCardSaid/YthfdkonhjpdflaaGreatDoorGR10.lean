/-
  THE DOCUMENT's PARSERS, 10: PackReads, the law's walk.
-/
import Derived.Test.YthfdkonhjpdflaaGreatDoorGRD
import Derived.Test.YthfdkonhjpdflaaGreatDoorPkD
import Derived.Test.YthfdkonhjpdflaaGreatDoorRCE
import Derived.Test.YthfdkonhjpdflaaGreatDoorPkJ
import Derived.Deep.QuietTactic
import Derived.BigQuiet
import Derived.BigRegion
namespace Go.Proofs.YthfdkonhjpdflaaGreatDoor
open Go.RowKit
set_option linter.unusedVariables false
set_option maxRecDepth 100000
set_option linter.unusedSimpArgs false

theorem parsePk_fits (b : List UInt8) : (parsePk b).1.fits := by
  by_cases h : hdE b = 0
  · by_cases h2 : firstP (bdS (fieldsP (hdQ b).kind) (hdS b)).2.2 (bdS (fieldsP (hdQ b).kind) (hdS b)).2.1.e = 0
    · rw [parsePk_good h h2]
      unfold eL
      dsimp only
      split
      · exact bdS_fits (hdS_fits b)
      · exact pkZero_fits
    · rw [parsePk_bad2 h h2]; exact pkZero_fits
  · rw [parsePk_bad h]; exact pkZero_fits
theorem parseCf_chain (b : List UInt8) : (parseCf b).1.chain.length ≤ 5 := by
  unfold parseCf eL
  dsimp only
  split
  · show (rdN _ _).1.length ≤ 5
    rw [rdN_len]; unfold cfN cfK; split <;> omega
  · simp [cfZero]
/-- a value of its kind, in cells, with the blocks of its lists -/
def hasPk (p : PK) (w : World) (G : List Nat) (X : List Value) : Prop := itemV w G (p, X)
def hasRq (r : RQ) (w : World) (G : List Nat) (X : List Value) : Prop := ∃ ev, X = rqL r ev ∧ rqV w G r ev
def hasAn (r : AN) (w : World) (G : List Nat) (X : List Value) : Prop := ∃ ev, X = anL r ev ∧ anV w G r ev
def hasCf (r : CF) (w : World) (G : List Nat) (X : List Value) : Prop := ∃ ev, X = cfL r ev ∧ intsV w G ev r.chain
theorem hasPk.keep {p : PK} {S : List Nat} {w w' : World} {G : List Nat} {X : List Value} (h : hasPk p w G X) (hk : keepBut S w w') (hS : ∀ y ∈ G, y ∉ S) : hasPk p w' G X := itemV.keep h hk hS
theorem hasRq.keep {p : RQ} {S : List Nat} {w w' : World} {G : List Nat} {X : List Value} (h : hasRq p w G X) (hk : keepBut S w w') (hS : ∀ y ∈ G, y ∉ S) : hasRq p w' G X := by
  obtain ⟨ev, e, h1, h2⟩ := h
  exact ⟨ev, e, h1, h2.keep hk hS⟩
theorem hasAn.keep {p : AN} {S : List Nat} {w w' : World} {G : List Nat} {X : List Value} (h : hasAn p w G X) (hk : keepBut S w w') (hS : ∀ y ∈ G, y ∉ S) : hasAn p w' G X := by
  obtain ⟨ev, e, h1, h2⟩ := h
  exact ⟨ev, e, h1, h2.keep hk hS⟩
theorem hasCf.keep {p : CF} {S : List Nat} {w w' : World} {G : List Nat} {X : List Value} (h : hasCf p w G X) (hk : keepBut S w w') (hS : ∀ y ∈ G, y ∉ S) : hasCf p w' G X := by
  obtain ⟨ev, e, h1⟩ := h
  exact ⟨ev, e, h1.keep hk hS⟩
/-- what a parser leaves -/
def rdQ (P : World → List Nat → List Value → Prop) (n : Nat) (E : Int) (w : World) (e : Ending) (w' : World) : Prop := ∃ X G, e = .returned (.tuple #[.agg (X : List Value).toArray, .int .i64 E]) ∧ P w' G X ∧ newIn w w' G ∧ keepBut [] w w' ∧ X.length = n ∧ ∀ u ∈ X, u.oneCell' = true
theorem rdQ.rq {f : Nat} {v : Value} {r : RQ} {E : Int} {w : World} (h : Calls Tryz.prog f #[v] w fun e w' => ∃ ev G, e = .returned (.tuple #[.agg (rqL r ev).toArray, .int .i64 E]) ∧ rqV w' G r ev ∧ newIn w w' G ∧ keepBut [] w w') : Calls Tryz.prog f #[v] w (rdQ (hasRq r) 37 E w) := by
  refine h.mono ?_
  rintro e w' ⟨ev, G, rfl, h1, h2, h3⟩
  exact ⟨_, G, rfl, ⟨ev, rfl, h1⟩, h2, h3, rqL_len h1.1, rqL_one _ h1.2.one⟩
theorem rdQ.an {f : Nat} {v : Value} {r : AN} {E : Int} {w : World} (h : Calls Tryz.prog f #[v] w fun e w' => ∃ ev G, e = .returned (.tuple #[.agg (anL r ev).toArray, .int .i64 E]) ∧ anV w' G r ev ∧ newIn w w' G ∧ keepBut [] w w') : Calls Tryz.prog f #[v] w (rdQ (hasAn r) 38 E w) := by
  refine h.mono ?_
  rintro e w' ⟨ev, G, rfl, h1, h2, h3⟩
  exact ⟨_, G, rfl, ⟨ev, rfl, h1⟩, h2, h3, anL_len h1.1, anL_one _ h1.2.one⟩
theorem rdQ.cf {f : Nat} {v : Value} {r : CF} {E : Int} {w : World} (h : Calls Tryz.prog f #[v] w fun e w' => ∃ ev G, e = .returned (.tuple #[.agg (cfL r ev).toArray, .int .i64 E]) ∧ intsV w' G ev r.chain ∧ newIn w w' G ∧ keepBut [] w w') : Calls Tryz.prog f #[v] w (rdQ (hasCf r) 3 E w) := by
  refine h.mono ?_
  rintro e w' ⟨ev, G, rfl, h1, h2, h3⟩
  exact ⟨_, G, rfl, ⟨ev, rfl, h1⟩, h2, h3, rfl, cfL_one _ h1.one⟩
theorem rdQ.pk {f : Nat} {v : Value} {r : PK} {E : Int} {w : World} (h : Calls Tryz.prog f #[v] w fun e w' => ∃ ev av cv vv bw G, e = .returned (.tuple #[.agg (pkL r ev av cv vv bw).toArray, .int .i64 E]) ∧ pkV w' G r ev av cv vv bw ∧ newIn w w' G ∧ keepBut [] w w') : Calls Tryz.prog f #[v] w (rdQ (hasPk r) 87 E w) := by
  refine h.mono ?_
  rintro e w' ⟨ev, av, cv, vv, bw, G, rfl, h1, h2, h3⟩
  have it : itemV w' G (r, pkL r ev av cv vv bw) := ⟨_, _, _, _, _, rfl, h1⟩
  exact ⟨_, G, rfl, it, h2, h3, it.len, it.one⟩
theorem rdQ.px {f : Nat} {v : Value} {r : PK} {E : Int} {w : World} (h : Calls Tryz.prog f #[v] w fun e w' => ∃ X G, e = .returned (.tuple #[.agg (X : List Value).toArray, .int .i64 E]) ∧ itemV w' G (r, X) ∧ newIn w w' G ∧ keepBut [] w w') : Calls Tryz.prog f #[v] w (rdQ (hasPk r) 87 E w) := by
  refine h.mono ?_
  rintro e w' ⟨X, G, rfl, h1, h2, h3⟩
  exact ⟨_, G, rfl, h1, h2, h3, h1.len, h1.one⟩
theorem same0 {p : PK} {w : World} {F G : List Nat} {X Y : List Value} (h : hasPk p w F X) (h' : hasPk p w G Y) (hf : p.fits) : Calls Tryz.prog 13 #[.agg X.toArray, .agg Y.toArray] w fun e w' => e = .returned (.bool true) ∧ keepBut [] w w' := by
  have := sameDX F G p p X Y w h h' hf hf
  rwa [PK.same_self] at this
theorem same1 {p : RQ} {w : World} {F G : List Nat} {X Y : List Value} (h : hasRq p w F X) (h' : hasRq p w G Y) : Calls Tryz.prog 36 #[.agg X.toArray, .agg Y.toArray] w fun e w' => e = .returned (.bool true) ∧ keepBut [] w w' := by
  obtain ⟨ev, rfl, h1⟩ := h
  obtain ⟨ew, rfl, h2⟩ := h'
  have := sameReqD F G p p ev ew w h1 h2
  rwa [RQ.same_self] at this
theorem same2 {p : AN} {w : World} {F G : List Nat} {X Y : List Value} (h : hasAn p w F X) (h' : hasAn p w G Y) : Calls Tryz.prog 37 #[.agg X.toArray, .agg Y.toArray] w fun e w' => e = .returned (.bool true) ∧ keepBut [] w w' := by
  obtain ⟨ev, rfl, h1⟩ := h
  obtain ⟨ew, rfl, h2⟩ := h'
  have := sameAnsD F G p p ev ew w h1 h2
  rwa [AN.same_self] at this
theorem same3 {p : CF} {w : World} {F G : List Nat} {X Y : List Value} (h : hasCf p w F X) (h' : hasCf p w G Y) (hb : p.chain.length ≤ 17592186044416) : Calls Tryz.prog 38 #[.agg X.toArray, .agg Y.toArray] w fun e w' => e = .returned (.bool true) ∧ keepBut [] w w' := by
  obtain ⟨ev, rfl, h1⟩ := h
  obtain ⟨ew, rfl, h2⟩ := h'
  have := sameConfD F G p p ev ew w h1 h2 hb hb
  rwa [CF.same_self] at this
/-- what stands while the bytes are turned -/
def trR (G : List Nat) (w1 wx : World) : Prop := keepBut G w1 wx ∧ kindK w1 wx
theorem trR.set {G : List Nat} {w1 wx : World} (h : trR G w1 wx) {g j : Nat} (hg : g ∈ G) {k : IntKind} {z : Int} (hz : wx.cell? ⟨g, j, none⟩ = some (.int k z)) (u : Int) : trR G w1 (wx.setCell ⟨g, j, none⟩ (.int k u)) := by
  have kk : keepBut G wx (wx.setCell ⟨g, j, none⟩ (.int k u)) := (keepBut.refl G wx).setCell _ _ (.inl hg)
  exact ⟨h.1.then kk (fun x hx => .inl hx), h.2.set hz u⟩
set_option maxHeartbeats 16000000 in
theorem packReads_law (A : Option Addr) (g c : Nat) (b0 : List UInt8) (w : World) (hs : seen w A g b0) (hlc : b0.length ≤ c) (hcm : c ≤ maxLen) (hfl : fieldsAt w) :
    Calls Tryz.prog 4 #[.slice A b0.length c] w fun e w' => e = .returned (.bool true) ∧ keepBut [] w w' := by
  have hcm' := hcm
  unfold maxLen at hcm
  obtain ⟨b, hL⟩ : ∃ b, b = b0.take 3000 := ⟨_, rfl⟩
  have sb : seen w A g b := by rw [hL]; exact hs.take 3000
  have b3 : b.length ≤ 3000 := by rw [hL, List.length_take]; omega
  have bc : b.length ≤ c := by rw [hL, List.length_take]; omega
  have e1 : (if 3000 < (b0.length : Int) then 3000 else (b0.length : Int)).toNat = b.length := by rw [hL, List.length_take]; split <;> omega
  have E1 := Lib.hid e1
  have hB : bytesV w [g] (.slice A b.length c) b := ⟨A, c, g, rfl, bc, hcm', sb, fun _ => by simp⟩
  have HB := Lib.hid hB
  have HF := Lib.hid hfl
  have hbb : (b == b) = true := by simp
  clear e1 hL hs hB hfl sb hcm'
  have zv := zv_pk
  obtain ⟨Z, hZ⟩ : ∃ Z, pkL pkZero nilV nilV nilV nilV nilV = Z := ⟨_, rfl⟩
  have zl := pkZ_len
  rw [hZ] at zv zl
  have HZ := Lib.hid (And.intro zv zl)
  have ZR := Lib.hid (show (Tryz.prog.info? 26).bind (·.zero) = some (.agg (rqL rqZero nilV).toArray) ∧ (rqL rqZero nilV).length = 37 from ⟨zv_rq, rqL_len rqZero_name⟩)
  have ZA := Lib.hid (show (Tryz.prog.info? 28).bind (·.zero) = some (.agg (anL anZero nilV).toArray) ∧ (anL anZero nilV).length = 38 from ⟨zv_an, anL_len anZero_name⟩)
  have ZC := Lib.hid (show (Tryz.prog.info? 31).bind (·.zero) = some (.agg (cfL cfZero nilV).toArray) ∧ (cfL cfZero nilV).length = 3 from ⟨zv_cf, rfl⟩)
  clear zv zl hZ
  obtain ⟨p0, hp0⟩ : ∃ x, (parsePk b).1 = x := ⟨_, rfl⟩
  obtain ⟨E0, hE0⟩ : ∃ x, (parsePk b).2 = x := ⟨_, rfl⟩
  obtain ⟨p1, hp1⟩ : ∃ x, (parseRq b).1 = x := ⟨_, rfl⟩
  obtain ⟨E2, hE2⟩ : ∃ x, (parseRq b).2 = x := ⟨_, rfl⟩
  obtain ⟨p2, hp2⟩ : ∃ x, (parseAn b).1 = x := ⟨_, rfl⟩
  obtain ⟨E4, hE4⟩ : ∃ x, (parseAn b).2 = x := ⟨_, rfl⟩
  obtain ⟨p3, hp3⟩ : ∃ x, (parseCf b).1 = x := ⟨_, rfl⟩
  obtain ⟨E6, hE6⟩ : ∃ x, (parseCf b).2 = x := ⟨_, rfl⟩
  have HE := Lib.hid (And.intro (And.intro hp0 hE0) (And.intro (And.intro hp1 hE2) (And.intro (And.intro hp2 hE4) (And.intro hp3 hE6))))
  have HFT := Lib.hid (show p0.fits ∧ p3.chain.length ≤ 17592186044416 by rw [← hp0, ← hp3]; exact ⟨parsePk_fits b, Nat.le_trans (parseCf_chain b) (by decide)⟩)
  clear hp0 hE0 hp1 hE2 hp2 hE4 hp3 hE6
  have ne0 : (E0 != E0) = false := by simp
  have ne2 : (E2 != E2) = false := by simp
  have ne4 : (E4 != E4) = false := by simp
  have ne6 : (E6 != E6) = false := by simp
  go_enter Tryz.func4, Tryz.ntmps4
  go_upto_region 2 with (first
    | (go_at_call 27; simp only [E1.out]; refine (copyBytesD [g] _ b _ HB.out (by omega)).mono ?_; rintro e w1 ⟨u1, G1, rfl, i1, n1, k1⟩; obtain ⟨A1, c1, g1, rfl, j1, j2, j3, j4⟩ := id i1; have I1 := Lib.hid (And.intro i1 (And.intro n1 (And.intro k1 (And.intro j2 (And.intro j3 j1))))); clear i1 n1 k1 j1 j2 j3 j4))
  generalize (if 3000 < (b0.length : Int) then 3000 else (b0.length : Int)) = zz
  go_upto_region 3 with (first
    | (go_at_call 27; refine (copyBytesD G1 _ b _ I1.out.1 (by omega)).mono ?_; rintro e v0 ⟨u2, G2, rfl, i2, n2, k2⟩; obtain ⟨A2, c2, g2, rfl, j1, j2, j3, j4⟩ := id i2; have I2 := Lib.hid (And.intro i2 (And.intro n2 (And.intro k2 j3))); clear i2 n2 k2 j1 j2 j3 j4))
  have HI := Lib.hid (And.intro (I1.out.1.keep I2.out.2.2.1 (by simp)) (And.intro I2.out.1 (And.intro (I1.out.2.2.1.then I2.out.2.2.1 (by simp)) (And.intro (fun y hy => (by have h1 := I1.out.2.1 y hy; have h2 := I2.out.2.2.1.size; omega : w.heap.size ≤ y ∧ y < v0.heap.size) : ∀ y ∈ G1, w.heap.size ≤ y ∧ y < v0.heap.size) (And.intro I1.out.2.2.2.1 (And.intro (I1.out.2.2.2.2.1.keep I2.out.2.2.1 (by simp)) (And.intro I2.out.2.2.2 I1.out.2.2.2.2.2)))))))
  have K0 := Lib.hid (keepBut.refl [] v0)
  have D0 := K0
  clear I1 I2 HB
  have C0 : Hid (∀ wx, keepBut [] v0 wx → Calls Tryz.prog 28 #[.slice A1 b.length c1] wx (rdQ (hasPk p0) 87 E0 wx)) := Lib.hid (fun wx k => rdQ.pk (HE.out.1.1 ▸ HE.out.1.2 ▸ parsePk_any G1 b _ wx (HI.out.1.keep k (by simp)) (by omega) (HF.out.keep (HI.out.2.2.1.then k (by simp)) (by simp))))
  have C1 : Hid (∀ wx, keepBut [] v0 wx → Calls Tryz.prog 29 #[.slice A2 b.length c2] wx (rdQ (hasPk p0) 87 E0 wx)) := Lib.hid (fun wx k => rdQ.px (HE.out.1.1 ▸ HE.out.1.2 ▸ parse2_any G2 b _ wx (HI.out.2.1.keep k (by simp)) (by omega)))
  have C2 : Hid (∀ wx, keepBut [] v0 wx → Calls Tryz.prog 30 #[.slice A1 b.length c1] wx (rdQ (hasRq p1) 37 E2 wx)) := Lib.hid (fun wx k => rdQ.rq (HE.out.2.1.1 ▸ HE.out.2.1.2 ▸ parseRq_any G1 b _ wx (HI.out.1.keep k (by simp)) (by omega)))
  have C3 : Hid (∀ wx, keepBut [] v0 wx → Calls Tryz.prog 31 #[.slice A2 b.length c2] wx (rdQ (hasRq p1) 37 E2 wx)) := Lib.hid (fun wx k => rdQ.rq (HE.out.2.1.1 ▸ HE.out.2.1.2 ▸ parseReq2_any G2 b _ wx (HI.out.2.1.keep k (by simp)) (by omega)))
  have C4 : Hid (∀ wx, keepBut [] v0 wx → Calls Tryz.prog 32 #[.slice A1 b.length c1] wx (rdQ (hasAn p2) 38 E4 wx)) := Lib.hid (fun wx k => rdQ.an (HE.out.2.2.1.1 ▸ HE.out.2.2.1.2 ▸ parseAn_any G1 b _ wx (HI.out.1.keep k (by simp)) (by omega)))
  have C5 : Hid (∀ wx, keepBut [] v0 wx → Calls Tryz.prog 33 #[.slice A2 b.length c2] wx (rdQ (hasAn p2) 38 E4 wx)) := Lib.hid (fun wx k => rdQ.an (HE.out.2.2.1.1 ▸ HE.out.2.2.1.2 ▸ parseAns2_any G2 b _ wx (HI.out.2.1.keep k (by simp)) (by omega)))
  have C6 : Hid (∀ wx, keepBut [] v0 wx → Calls Tryz.prog 34 #[.slice A1 b.length c1] wx (rdQ (hasCf p3) 3 E6 wx)) := Lib.hid (fun wx k => rdQ.cf (HE.out.2.2.2.1 ▸ HE.out.2.2.2.2 ▸ parseCf_any G1 b _ wx (HI.out.1.keep k (by simp)) (by omega)))
  have C7 : Hid (∀ wx, keepBut [] v0 wx → Calls Tryz.prog 35 #[.slice A2 b.length c2] wx (rdQ (hasCf p3) 3 E6 wx)) := Lib.hid (fun wx k => rdQ.cf (HE.out.2.2.2.1 ▸ HE.out.2.2.2.2 ▸ parseConf2_any G2 b _ wx (HI.out.2.1.keep k (by simp)) (by omega)))
  go_upto_region 4 with (first
    | (go_at_call 28; refine (C0.out _ K0.out).mono ?_; rintro e x0 ⟨X0, J0, rfl, h1, h2, h3, h4, h5⟩; have Q0 := Lib.hid (And.intro h1 (And.intro h2 (And.intro h3 (And.intro h4 h5)))); clear h1 h2 h3 h4 h5)
    | (with_reducible refine wpList_alloc_to _ _ rfl 34 rfl _ HZ.out.1 rfl ?_)
    | (refine wpList_store_mid rfl 34 (.tmp 5) (.tmp 33) rfl x0.heap.size 0 X0.toArray rfl rfl (there_newP (by rw [Q0.out.2.2.2.1]; exact HZ.out.2.symm)) (by rw [List.size_toArray, Q0.out.2.2.2.1]; exact info_pk) (all_oneCell_toArray Q0.out.2.2.2.2) ?_))
  have hst := storedP (w := x0) (t := 34) (Z := Z) (X := X0) (by rw [Q0.out.2.2.2.1]; exact HZ.out.2.symm)
  obtain ⟨v1, hw⟩ : ∃ W, (x0.alloc (.cells (Z).toArray 34)).setCells x0.heap.size 0 X0 = W := ⟨_, rfl⟩
  rw [hw] at hst ⊢
  obtain ⟨t0, ht⟩ : ∃ t, x0.heap.size = t := ⟨_, rfl⟩
  rw [ht] at hst ⊢
  have R0 := Lib.hid (show rowAt v1 t0 34 X0.toArray ∧ hasPk p0 v1 J0 X0 ∧ (∀ y ∈ J0, v0.heap.size ≤ y) ∧ v0.heap.size ≤ t0 ∧ X0.length = 87 from ⟨hst.1, Q0.out.1.keep hst.2 (by simp), fun y hy => by have h1 := (Q0.out.2.1 y hy).1; have h2 := K0.out.size; omega, by have h1 := Q0.out.2.2.1.size; have h2 := K0.out.size; omega, Q0.out.2.2.2.1⟩)
  have D1 := Lib.hid (Q0.out.2.2.1.then hst.2 (by simp))
  have K1 := Lib.hid (K0.out.then D1.out (by simp))
  clear hst hw ht Q0 C0
  go_upto_region 5 with (first
    | (go_at_call 29; refine (C1.out _ K1.out).mono ?_; rintro e x1 ⟨X1, J1, rfl, h1, h2, h3, h4, h5⟩; have Q1 := Lib.hid (And.intro h1 (And.intro h2 (And.intro h3 (And.intro h4 h5)))); clear h1 h2 h3 h4 h5)
    | (with_reducible refine wpList_alloc_to _ _ rfl 34 rfl _ HZ.out.1 rfl ?_)
    | (refine wpList_store_mid rfl 34 (.tmp 7) (.tmp 38) rfl x1.heap.size 0 X1.toArray rfl rfl (there_newP (by rw [Q1.out.2.2.2.1]; exact HZ.out.2.symm)) (by rw [List.size_toArray, Q1.out.2.2.2.1]; exact info_pk) (all_oneCell_toArray Q1.out.2.2.2.2) ?_))
  have hst := storedP (w := x1) (t := 34) (Z := Z) (X := X1) (by rw [Q1.out.2.2.2.1]; exact HZ.out.2.symm)
  obtain ⟨v2, hw⟩ : ∃ W, (x1.alloc (.cells (Z).toArray 34)).setCells x1.heap.size 0 X1 = W := ⟨_, rfl⟩
  rw [hw] at hst ⊢
  obtain ⟨t1, ht⟩ : ∃ t, x1.heap.size = t := ⟨_, rfl⟩
  rw [ht] at hst ⊢
  have R1 := Lib.hid (show rowAt v2 t1 34 X1.toArray ∧ hasPk p0 v2 J1 X1 ∧ (∀ y ∈ J1, v0.heap.size ≤ y) ∧ v0.heap.size ≤ t1 ∧ X1.length = 87 from ⟨hst.1, Q1.out.1.keep hst.2 (by simp), fun y hy => by have h1 := (Q1.out.2.1 y hy).1; have h2 := K1.out.size; omega, by have h1 := Q1.out.2.2.1.size; have h2 := K1.out.size; omega, Q1.out.2.2.2.1⟩)
  have D2 := Lib.hid (Q1.out.2.2.1.then hst.2 (by simp))
  have K2 := Lib.hid (K1.out.then D2.out (by simp))
  clear hst hw ht Q1 C1
  go_upto_region 6 with (first
    | (go_at_call 30; refine (C2.out _ K2.out).mono ?_; rintro e x2 ⟨X2, J2, rfl, h1, h2, h3, h4, h5⟩; have Q2 := Lib.hid (And.intro h1 (And.intro h2 (And.intro h3 (And.intro h4 h5)))); clear h1 h2 h3 h4 h5)
    | (with_reducible refine wpList_alloc_to _ _ rfl 26 rfl _ ZR.out.1 rfl ?_)
    | (refine wpList_store_mid rfl 26 (.tmp 9) (.tmp 43) rfl x2.heap.size 0 X2.toArray rfl rfl (there_newP (by rw [Q2.out.2.2.2.1]; exact ZR.out.2.symm)) (by rw [List.size_toArray, Q2.out.2.2.2.1]; exact info_rq) (all_oneCell_toArray Q2.out.2.2.2.2) ?_))
  have hst := storedP (w := x2) (t := 26) (Z := rqL rqZero nilV) (X := X2) (by rw [Q2.out.2.2.2.1]; exact ZR.out.2.symm)
  obtain ⟨v3, hw⟩ : ∃ W, (x2.alloc (.cells (rqL rqZero nilV).toArray 26)).setCells x2.heap.size 0 X2 = W := ⟨_, rfl⟩
  rw [hw] at hst ⊢
  obtain ⟨t2, ht⟩ : ∃ t, x2.heap.size = t := ⟨_, rfl⟩
  rw [ht] at hst ⊢
  have R2 := Lib.hid (show rowAt v3 t2 26 X2.toArray ∧ hasRq p1 v3 J2 X2 ∧ (∀ y ∈ J2, v0.heap.size ≤ y) ∧ v0.heap.size ≤ t2 ∧ X2.length = 37 from ⟨hst.1, Q2.out.1.keep hst.2 (by simp), fun y hy => by have h1 := (Q2.out.2.1 y hy).1; have h2 := K2.out.size; omega, by have h1 := Q2.out.2.2.1.size; have h2 := K2.out.size; omega, Q2.out.2.2.2.1⟩)
  have D3 := Lib.hid (Q2.out.2.2.1.then hst.2 (by simp))
  have K3 := Lib.hid (K2.out.then D3.out (by simp))
  clear hst hw ht Q2 C2
  go_upto_region 7 with (first
    | (go_at_call 31; refine (C3.out _ K3.out).mono ?_; rintro e x3 ⟨X3, J3, rfl, h1, h2, h3, h4, h5⟩; have Q3 := Lib.hid (And.intro h1 (And.intro h2 (And.intro h3 (And.intro h4 h5)))); clear h1 h2 h3 h4 h5)
    | (with_reducible refine wpList_alloc_to _ _ rfl 26 rfl _ ZR.out.1 rfl ?_)
    | (refine wpList_store_mid rfl 26 (.tmp 11) (.tmp 48) rfl x3.heap.size 0 X3.toArray rfl rfl (there_newP (by rw [Q3.out.2.2.2.1]; exact ZR.out.2.symm)) (by rw [List.size_toArray, Q3.out.2.2.2.1]; exact info_rq) (all_oneCell_toArray Q3.out.2.2.2.2) ?_))
  have hst := storedP (w := x3) (t := 26) (Z := rqL rqZero nilV) (X := X3) (by rw [Q3.out.2.2.2.1]; exact ZR.out.2.symm)
  obtain ⟨v4, hw⟩ : ∃ W, (x3.alloc (.cells (rqL rqZero nilV).toArray 26)).setCells x3.heap.size 0 X3 = W := ⟨_, rfl⟩
  rw [hw] at hst ⊢
  obtain ⟨t3, ht⟩ : ∃ t, x3.heap.size = t := ⟨_, rfl⟩
  rw [ht] at hst ⊢
  have R3 := Lib.hid (show rowAt v4 t3 26 X3.toArray ∧ hasRq p1 v4 J3 X3 ∧ (∀ y ∈ J3, v0.heap.size ≤ y) ∧ v0.heap.size ≤ t3 ∧ X3.length = 37 from ⟨hst.1, Q3.out.1.keep hst.2 (by simp), fun y hy => by have h1 := (Q3.out.2.1 y hy).1; have h2 := K3.out.size; omega, by have h1 := Q3.out.2.2.1.size; have h2 := K3.out.size; omega, Q3.out.2.2.2.1⟩)
  have D4 := Lib.hid (Q3.out.2.2.1.then hst.2 (by simp))
  have K4 := Lib.hid (K3.out.then D4.out (by simp))
  clear hst hw ht Q3 C3
  go_upto_region 8 with (first
    | (go_at_call 32; refine (C4.out _ K4.out).mono ?_; rintro e x4 ⟨X4, J4, rfl, h1, h2, h3, h4, h5⟩; have Q4 := Lib.hid (And.intro h1 (And.intro h2 (And.intro h3 (And.intro h4 h5)))); clear h1 h2 h3 h4 h5)
    | (with_reducible refine wpList_alloc_to _ _ rfl 28 rfl _ ZA.out.1 rfl ?_)
    | (refine wpList_store_mid rfl 28 (.tmp 13) (.tmp 53) rfl x4.heap.size 0 X4.toArray rfl rfl (there_newP (by rw [Q4.out.2.2.2.1]; exact ZA.out.2.symm)) (by rw [List.size_toArray, Q4.out.2.2.2.1]; exact info_an) (all_oneCell_toArray Q4.out.2.2.2.2) ?_))
  have hst := storedP (w := x4) (t := 28) (Z := anL anZero nilV) (X := X4) (by rw [Q4.out.2.2.2.1]; exact ZA.out.2.symm)
  obtain ⟨v5, hw⟩ : ∃ W, (x4.alloc (.cells (anL anZero nilV).toArray 28)).setCells x4.heap.size 0 X4 = W := ⟨_, rfl⟩
  rw [hw] at hst ⊢
  obtain ⟨t4, ht⟩ : ∃ t, x4.heap.size = t := ⟨_, rfl⟩
  rw [ht] at hst ⊢
  have R4 := Lib.hid (show rowAt v5 t4 28 X4.toArray ∧ hasAn p2 v5 J4 X4 ∧ (∀ y ∈ J4, v0.heap.size ≤ y) ∧ v0.heap.size ≤ t4 ∧ X4.length = 38 from ⟨hst.1, Q4.out.1.keep hst.2 (by simp), fun y hy => by have h1 := (Q4.out.2.1 y hy).1; have h2 := K4.out.size; omega, by have h1 := Q4.out.2.2.1.size; have h2 := K4.out.size; omega, Q4.out.2.2.2.1⟩)
  have D5 := Lib.hid (Q4.out.2.2.1.then hst.2 (by simp))
  have K5 := Lib.hid (K4.out.then D5.out (by simp))
  clear hst hw ht Q4 C4
  go_upto_region 9 with (first
    | (go_at_call 33; refine (C5.out _ K5.out).mono ?_; rintro e x5 ⟨X5, J5, rfl, h1, h2, h3, h4, h5⟩; have Q5 := Lib.hid (And.intro h1 (And.intro h2 (And.intro h3 (And.intro h4 h5)))); clear h1 h2 h3 h4 h5)
    | (with_reducible refine wpList_alloc_to _ _ rfl 28 rfl _ ZA.out.1 rfl ?_)
    | (refine wpList_store_mid rfl 28 (.tmp 15) (.tmp 58) rfl x5.heap.size 0 X5.toArray rfl rfl (there_newP (by rw [Q5.out.2.2.2.1]; exact ZA.out.2.symm)) (by rw [List.size_toArray, Q5.out.2.2.2.1]; exact info_an) (all_oneCell_toArray Q5.out.2.2.2.2) ?_))
  have hst := storedP (w := x5) (t := 28) (Z := anL anZero nilV) (X := X5) (by rw [Q5.out.2.2.2.1]; exact ZA.out.2.symm)
  obtain ⟨v6, hw⟩ : ∃ W, (x5.alloc (.cells (anL anZero nilV).toArray 28)).setCells x5.heap.size 0 X5 = W := ⟨_, rfl⟩
  rw [hw] at hst ⊢
  obtain ⟨t5, ht⟩ : ∃ t, x5.heap.size = t := ⟨_, rfl⟩
  rw [ht] at hst ⊢
  have R5 := Lib.hid (show rowAt v6 t5 28 X5.toArray ∧ hasAn p2 v6 J5 X5 ∧ (∀ y ∈ J5, v0.heap.size ≤ y) ∧ v0.heap.size ≤ t5 ∧ X5.length = 38 from ⟨hst.1, Q5.out.1.keep hst.2 (by simp), fun y hy => by have h1 := (Q5.out.2.1 y hy).1; have h2 := K5.out.size; omega, by have h1 := Q5.out.2.2.1.size; have h2 := K5.out.size; omega, Q5.out.2.2.2.1⟩)
  have D6 := Lib.hid (Q5.out.2.2.1.then hst.2 (by simp))
  have K6 := Lib.hid (K5.out.then D6.out (by simp))
  clear hst hw ht Q5 C5
  go_upto_region 10 with (first
    | (go_at_call 34; refine (C6.out _ K6.out).mono ?_; rintro e x6 ⟨X6, J6, rfl, h1, h2, h3, h4, h5⟩; have Q6 := Lib.hid (And.intro h1 (And.intro h2 (And.intro h3 (And.intro h4 h5)))); clear h1 h2 h3 h4 h5)
    | (with_reducible refine wpList_alloc_to _ _ rfl 31 rfl _ ZC.out.1 rfl ?_)
    | (refine wpList_store_mid rfl 31 (.tmp 17) (.tmp 63) rfl x6.heap.size 0 X6.toArray rfl rfl (there_newP (by rw [Q6.out.2.2.2.1]; exact ZC.out.2.symm)) (by rw [List.size_toArray, Q6.out.2.2.2.1]; exact info_cf) (all_oneCell_toArray Q6.out.2.2.2.2) ?_))
  have hst := storedP (w := x6) (t := 31) (Z := cfL cfZero nilV) (X := X6) (by rw [Q6.out.2.2.2.1]; exact ZC.out.2.symm)
  obtain ⟨v7, hw⟩ : ∃ W, (x6.alloc (.cells (cfL cfZero nilV).toArray 31)).setCells x6.heap.size 0 X6 = W := ⟨_, rfl⟩
  rw [hw] at hst ⊢
  obtain ⟨t6, ht⟩ : ∃ t, x6.heap.size = t := ⟨_, rfl⟩
  rw [ht] at hst ⊢
  have R6 := Lib.hid (show rowAt v7 t6 31 X6.toArray ∧ hasCf p3 v7 J6 X6 ∧ (∀ y ∈ J6, v0.heap.size ≤ y) ∧ v0.heap.size ≤ t6 ∧ X6.length = 3 from ⟨hst.1, Q6.out.1.keep hst.2 (by simp), fun y hy => by have h1 := (Q6.out.2.1 y hy).1; have h2 := K6.out.size; omega, by have h1 := Q6.out.2.2.1.size; have h2 := K6.out.size; omega, Q6.out.2.2.2.1⟩)
  have D7 := Lib.hid (Q6.out.2.2.1.then hst.2 (by simp))
  have K7 := Lib.hid (K6.out.then D7.out (by simp))
  clear hst hw ht Q6 C6
  go_upto_region 11 with (first
    | (go_at_call 35; refine (C7.out _ K7.out).mono ?_; rintro e x7 ⟨X7, J7, rfl, h1, h2, h3, h4, h5⟩; have Q7 := Lib.hid (And.intro h1 (And.intro h2 (And.intro h3 (And.intro h4 h5)))); clear h1 h2 h3 h4 h5)
    | (with_reducible refine wpList_alloc_to _ _ rfl 31 rfl _ ZC.out.1 rfl ?_)
    | (refine wpList_store_mid rfl 31 (.tmp 19) (.tmp 68) rfl x7.heap.size 0 X7.toArray rfl rfl (there_newP (by rw [Q7.out.2.2.2.1]; exact ZC.out.2.symm)) (by rw [List.size_toArray, Q7.out.2.2.2.1]; exact info_cf) (all_oneCell_toArray Q7.out.2.2.2.2) ?_))
  have hst := storedP (w := x7) (t := 31) (Z := cfL cfZero nilV) (X := X7) (by rw [Q7.out.2.2.2.1]; exact ZC.out.2.symm)
  obtain ⟨v8, hw⟩ : ∃ W, (x7.alloc (.cells (cfL cfZero nilV).toArray 31)).setCells x7.heap.size 0 X7 = W := ⟨_, rfl⟩
  rw [hw] at hst ⊢
  obtain ⟨t7, ht⟩ : ∃ t, x7.heap.size = t := ⟨_, rfl⟩
  rw [ht] at hst ⊢
  have R7 := Lib.hid (show rowAt v8 t7 31 X7.toArray ∧ hasCf p3 v8 J7 X7 ∧ (∀ y ∈ J7, v0.heap.size ≤ y) ∧ v0.heap.size ≤ t7 ∧ X7.length = 3 from ⟨hst.1, Q7.out.1.keep hst.2 (by simp), fun y hy => by have h1 := (Q7.out.2.1 y hy).1; have h2 := K7.out.size; omega, by have h1 := Q7.out.2.2.1.size; have h2 := K7.out.size; omega, Q7.out.2.2.2.1⟩)
  have D8 := Lib.hid (Q7.out.2.2.1.then hst.2 (by simp))
  have K8 := Lib.hid (K7.out.then D8.out (by simp))
  clear hst hw ht Q7 C7
  go_upto_region 13 with (first
    | (go_at_call 11; refine (eqBytes_any A1 A2 g1 g2 c1 c2 b b _ (HI.out.2.2.2.2.2.1.keep K8.out (by simp)) (HI.out.2.2.2.2.2.2.1.keep K8.out (by simp))).mono ?_; rintro e w9 ⟨rfl, rfl⟩; rw [hbb]))
  have S0 := Lib.hid (show rowAt v8 t0 34 X0.toArray ∧ hasPk p0 v8 J0 X0 from ⟨((((((D2.out.then D3.out (by simp)).then D4.out (by simp)).then D5.out (by simp)).then D6.out (by simp)).then D7.out (by simp)).then D8.out (by simp)).row R0.out.1 (by simp), R0.out.2.1.keep ((((((D2.out.then D3.out (by simp)).then D4.out (by simp)).then D5.out (by simp)).then D6.out (by simp)).then D7.out (by simp)).then D8.out (by simp)) (by simp)⟩)
  have S1 := Lib.hid (show rowAt v8 t1 34 X1.toArray ∧ hasPk p0 v8 J1 X1 from ⟨(((((D3.out.then D4.out (by simp)).then D5.out (by simp)).then D6.out (by simp)).then D7.out (by simp)).then D8.out (by simp)).row R1.out.1 (by simp), R1.out.2.1.keep (((((D3.out.then D4.out (by simp)).then D5.out (by simp)).then D6.out (by simp)).then D7.out (by simp)).then D8.out (by simp)) (by simp)⟩)
  have S2 := Lib.hid (show rowAt v8 t2 26 X2.toArray ∧ hasRq p1 v8 J2 X2 from ⟨((((D4.out.then D5.out (by simp)).then D6.out (by simp)).then D7.out (by simp)).then D8.out (by simp)).row R2.out.1 (by simp), R2.out.2.1.keep ((((D4.out.then D5.out (by simp)).then D6.out (by simp)).then D7.out (by simp)).then D8.out (by simp)) (by simp)⟩)
  have S3 := Lib.hid (show rowAt v8 t3 26 X3.toArray ∧ hasRq p1 v8 J3 X3 from ⟨(((D5.out.then D6.out (by simp)).then D7.out (by simp)).then D8.out (by simp)).row R3.out.1 (by simp), R3.out.2.1.keep (((D5.out.then D6.out (by simp)).then D7.out (by simp)).then D8.out (by simp)) (by simp)⟩)
  have S4 := Lib.hid (show rowAt v8 t4 28 X4.toArray ∧ hasAn p2 v8 J4 X4 from ⟨((D6.out.then D7.out (by simp)).then D8.out (by simp)).row R4.out.1 (by simp), R4.out.2.1.keep ((D6.out.then D7.out (by simp)).then D8.out (by simp)) (by simp)⟩)
  have S5 := Lib.hid (show rowAt v8 t5 28 X5.toArray ∧ hasAn p2 v8 J5 X5 from ⟨(D7.out.then D8.out (by simp)).row R5.out.1 (by simp), R5.out.2.1.keep (D7.out.then D8.out (by simp)) (by simp)⟩)
  have S6 := Lib.hid (show rowAt v8 t6 31 X6.toArray ∧ hasCf p3 v8 J6 X6 from ⟨D8.out.row R6.out.1 (by simp), R6.out.2.1.keep D8.out (by simp)⟩)
  have S7 := Lib.hid (show rowAt v8 t7 31 X7.toArray ∧ hasCf p3 v8 J7 X7 from ⟨(keepBut.refl [] v8).row R7.out.1 (by simp), R7.out.2.1.keep (keepBut.refl [] v8) (by simp)⟩)
  have HT1 := Lib.hid ((HI.out.1.keep K8.out (by simp)).intsAt)
  have HKW := Lib.hid (HI.out.2.2.1.then K8.out (by simp))
  have HS : Hid (trR G1 v8 v8) := Lib.hid ⟨keepBut.refl _ _, kindK.refl _⟩
  obtain ⟨n, hn⟩ : ∃ n, b.length = n := ⟨_, rfl⟩
  rw [hn] at b3 HT1 ⊢
  clear hn
  try rw [hn]
  go_wp2_with fail
  go_loopw [21] (fun v wx => ∃ i : Nat, i ≤ n ∧ v = .int .i64 (i : Int) ∧ Hid (trR G1 v8 wx)) (fun v _ => n - (intOf v).toNat)
  case atStart => exact ⟨0, Nat.zero_le _, rfl, HS⟩
  case round =>
    obtain ⟨q0, hil, rfl, H1⟩ := hrel
    by_cases hlt : q0 < n
    · obtain ⟨g3, o3, rfl, hg1, hg2⟩ := HT1.out (by omega)
      obtain ⟨z0, hz0⟩ := hg2 q0 hlt
      obtain ⟨z, hz⟩ := H1.out.2.1 _ _ _ hz0
      have hfr : wr.frozen? ⟨g3, o3 + q0, none⟩ = false := (HKW.out.then H1.out.1 (fun x hx => .inr (HI.out.2.2.2.1 x hx).1)).free (HI.out.2.2.2.1 _ hg1).1 _
      have hi2 : (q0 : Int) < (n : Int) := by omega
      have hi0 : (0 : Int) ≤ (q0 : Int) := by omega
      have hwi : IntKind.i64.wrap ((q0 : Int) + 1) = (q0 : Int) + 1 := by rw [IntKind.wrap_i64]; omega
      have HN := Lib.hid (H1.out.set hg1 hz (bits BinOp.xor IntKind.u8 z 90))
      clear hg1 hg2 hz0
      go_wp2_with fail
      go_roundw
      case rel => exact ⟨q0 + 1, by omega, by go_num, HN⟩
      case measure => simp only [intOf]; omega
    · have hie : ¬ (q0 : Int) < (n : Int) := by omega
      have kz : keepBut [] w wr := HKW.out.then H1.out.1 (fun x hx => .inr (HI.out.2.2.2.1 x hx).1)
      have HZW := Lib.hid (And.intro kz (HF.out.keep kz (by simp)))
      have T0 : Hid (∀ wx, keepBut [] wr wx → rowAt wx t0 34 X0.toArray ∧ hasPk p0 wx J0 X0) := Lib.hid (fun wx k => ⟨k.row (H1.out.1.row S0.out.1 (fun hm => by have h1 := (HI.out.2.2.2.1 _ hm).2; have h2 := R0.out.2.2.2.1; omega)) (by simp), (S0.out.2.keep H1.out.1 (fun y hy hm => by have h1 := (HI.out.2.2.2.1 _ hm).2; have h2 := R0.out.2.2.1 y hy; omega)).keep k (by simp)⟩)
      have T1 : Hid (∀ wx, keepBut [] wr wx → rowAt wx t1 34 X1.toArray ∧ hasPk p0 wx J1 X1) := Lib.hid (fun wx k => ⟨k.row (H1.out.1.row S1.out.1 (fun hm => by have h1 := (HI.out.2.2.2.1 _ hm).2; have h2 := R1.out.2.2.2.1; omega)) (by simp), (S1.out.2.keep H1.out.1 (fun y hy hm => by have h1 := (HI.out.2.2.2.1 _ hm).2; have h2 := R1.out.2.2.1 y hy; omega)).keep k (by simp)⟩)
      have T2 : Hid (∀ wx, keepBut [] wr wx → rowAt wx t2 26 X2.toArray ∧ hasRq p1 wx J2 X2) := Lib.hid (fun wx k => ⟨k.row (H1.out.1.row S2.out.1 (fun hm => by have h1 := (HI.out.2.2.2.1 _ hm).2; have h2 := R2.out.2.2.2.1; omega)) (by simp), (S2.out.2.keep H1.out.1 (fun y hy hm => by have h1 := (HI.out.2.2.2.1 _ hm).2; have h2 := R2.out.2.2.1 y hy; omega)).keep k (by simp)⟩)
      have T3 : Hid (∀ wx, keepBut [] wr wx → rowAt wx t3 26 X3.toArray ∧ hasRq p1 wx J3 X3) := Lib.hid (fun wx k => ⟨k.row (H1.out.1.row S3.out.1 (fun hm => by have h1 := (HI.out.2.2.2.1 _ hm).2; have h2 := R3.out.2.2.2.1; omega)) (by simp), (S3.out.2.keep H1.out.1 (fun y hy hm => by have h1 := (HI.out.2.2.2.1 _ hm).2; have h2 := R3.out.2.2.1 y hy; omega)).keep k (by simp)⟩)
      have T4 : Hid (∀ wx, keepBut [] wr wx → rowAt wx t4 28 X4.toArray ∧ hasAn p2 wx J4 X4) := Lib.hid (fun wx k => ⟨k.row (H1.out.1.row S4.out.1 (fun hm => by have h1 := (HI.out.2.2.2.1 _ hm).2; have h2 := R4.out.2.2.2.1; omega)) (by simp), (S4.out.2.keep H1.out.1 (fun y hy hm => by have h1 := (HI.out.2.2.2.1 _ hm).2; have h2 := R4.out.2.2.1 y hy; omega)).keep k (by simp)⟩)
      have T5 : Hid (∀ wx, keepBut [] wr wx → rowAt wx t5 28 X5.toArray ∧ hasAn p2 wx J5 X5) := Lib.hid (fun wx k => ⟨k.row (H1.out.1.row S5.out.1 (fun hm => by have h1 := (HI.out.2.2.2.1 _ hm).2; have h2 := R5.out.2.2.2.1; omega)) (by simp), (S5.out.2.keep H1.out.1 (fun y hy hm => by have h1 := (HI.out.2.2.2.1 _ hm).2; have h2 := R5.out.2.2.1 y hy; omega)).keep k (by simp)⟩)
      have T6 : Hid (∀ wx, keepBut [] wr wx → rowAt wx t6 31 X6.toArray ∧ hasCf p3 wx J6 X6) := Lib.hid (fun wx k => ⟨k.row (H1.out.1.row S6.out.1 (fun hm => by have h1 := (HI.out.2.2.2.1 _ hm).2; have h2 := R6.out.2.2.2.1; omega)) (by simp), (S6.out.2.keep H1.out.1 (fun y hy hm => by have h1 := (HI.out.2.2.2.1 _ hm).2; have h2 := R6.out.2.2.1 y hy; omega)).keep k (by simp)⟩)
      have T7 : Hid (∀ wx, keepBut [] wr wx → rowAt wx t7 31 X7.toArray ∧ hasCf p3 wx J7 X7) := Lib.hid (fun wx k => ⟨k.row (H1.out.1.row S7.out.1 (fun hm => by have h1 := (HI.out.2.2.2.1 _ hm).2; have h2 := R7.out.2.2.2.1; omega)) (by simp), (S7.out.2.keep H1.out.1 (fun y hy hm => by have h1 := (HI.out.2.2.2.1 _ hm).2; have h2 := R7.out.2.2.1 y hy; omega)).keep k (by simp)⟩)
      have Ka := Lib.hid (keepBut.refl [] wr)
      clear kz hlt hil HS
      go_upto_region 17 with fail
      go_wp2_with (first
        | (refine wpList_load_mid rfl 34 (.tmp 5) rfl t0 0 rfl X0 _ (T0.out _ Ka.out).1.rangeAll Tryz.underlying34 rfl (by rw [R0.out.2.2.2.2]; exact info_pk) ?_)
        | (refine wpList_load_mid rfl 34 (.tmp 7) rfl t1 0 rfl X1 _ (T1.out _ Ka.out).1.rangeAll Tryz.underlying34 rfl (by rw [R1.out.2.2.2.2]; exact info_pk) ?_)
        | (go_at_call 13; refine (same0 (T0.out _ Ka.out).2 (T1.out _ Ka.out).2 HFT.out.1).mono ?_; rintro e y0 ⟨rfl, kk⟩; have Kb := Lib.hid (Ka.out.then kk (by simp)); clear kk)
        | (refine wpList_load_mid_g 26 (.tmp 9) rfl t2 0 rfl X2 _ (T2.out _ Kb.out).1.rangeAll Tryz.underlying26 rfl (by rw [R2.out.2.2.2.2]; exact info_rq) ?_ ?_; · rfl)
        | (refine wpList_load_mid_g 26 (.tmp 11) rfl t3 0 rfl X3 _ (T3.out _ Kb.out).1.rangeAll Tryz.underlying26 rfl (by rw [R3.out.2.2.2.2]; exact info_rq) ?_ ?_; · rfl)
        | (go_at_call 36; refine (same1 (T2.out _ Kb.out).2 (T3.out _ Kb.out).2).mono ?_; rintro e y1 ⟨rfl, kk⟩; have Kc := Lib.hid (Kb.out.then kk (by simp)); clear kk)
        | (refine wpList_load_mid_g 28 (.tmp 13) rfl t4 0 rfl X4 _ (T4.out _ Kc.out).1.rangeAll Tryz.underlying28 rfl (by rw [R4.out.2.2.2.2]; exact info_an) ?_ ?_; · rfl)
        | (refine wpList_load_mid_g 28 (.tmp 15) rfl t5 0 rfl X5 _ (T5.out _ Kc.out).1.rangeAll Tryz.underlying28 rfl (by rw [R5.out.2.2.2.2]; exact info_an) ?_ ?_; · rfl)
        | (go_at_call 37; refine (same2 (T4.out _ Kc.out).2 (T5.out _ Kc.out).2).mono ?_; rintro e y2 ⟨rfl, kk⟩; have Kd := Lib.hid (Kc.out.then kk (by simp)); clear kk)
        | (refine wpList_load_mid_g 31 (.tmp 17) rfl t6 0 rfl X6 _ (T6.out _ Kd.out).1.rangeAll Tryz.underlying31 rfl (by rw [R6.out.2.2.2.2]; exact info_cf) ?_ ?_; · rfl)
        | (refine wpList_load_mid_g 31 (.tmp 19) rfl t7 0 rfl X7 _ (T7.out _ Kd.out).1.rangeAll Tryz.underlying31 rfl (by rw [R7.out.2.2.2.2]; exact info_cf) ?_ ?_; · rfl)
        | (go_at_call 38; refine (same3 (T6.out _ Kd.out).2 (T7.out _ Kd.out).2 HFT.out.2).mono ?_; rintro e y3 ⟨rfl, kk⟩; have Ke := Lib.hid (Kd.out.then kk (by simp)); clear kk)
        | (go_at_call 26; refine (works_any _ (HZW.out.2.keep Ke.out (by simp))).mono ?_; rintro e y5 ⟨rfl, kk⟩; have Kf := Lib.hid (Ke.out.then kk (by simp)); clear kk))
      go_ret
      exact ⟨rfl, HZW.out.1.then Kf.out (by simp)⟩
end Go.Proofs.YthfdkonhjpdflaaGreatDoor
