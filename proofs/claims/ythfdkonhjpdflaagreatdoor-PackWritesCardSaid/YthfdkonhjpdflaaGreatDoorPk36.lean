/-
  GREAT, 36: the statements' own help: has (what its bytes tell is given).
-/
import Derived.Test.YthfdkonhjpdflaaGreatDoorPk33
namespace Go.Proofs.YthfdkonhjpdflaaGreatDoor
open Go.RowKit
set_option linter.unusedVariables false
set_option maxRecDepth 100000
set_option linter.unusedSimpArgs false

/-! packets -/
def oL (b : Int) (m : List UInt8) : List UInt8 := if b = 0 then [] else m
theorem aI_oL (b : Int) (l m : List UInt8) : aI b l m = l ++ oL b m := by unfold aI oL; split <;> simp
theorem oL_off {b : Int} (m : List UInt8) (h : b = 0) : oL b m = [] := by unfold oL; rw [if_pos h]
theorem oL_on {b : Int} (m : List UInt8) (h : b ≠ 0) : oL b m = m := by unfold oL; rw [if_neg h]
def tl9 (p : PK) (h : Int) : List UInt8 := oL (bitA h 256) (cb p.bytes.length ++ p.bytes) ++ []
def tl8 (p : PK) (h : Int) : List UInt8 := oL (bitA h 128) (beBytes 1 p.votes.length ++ vtsE p.votes) ++ tl9 p h
def tl7 (p : PK) (h : Int) : List UInt8 := oL (bitA h 64) (cb (cfB p.conf).length ++ cfB p.conf) ++ tl8 p h
def tl6 (p : PK) (h : Int) : List UInt8 := oL (bitA h 32) (cb (ansB p.ans).length ++ ansB p.ans) ++ tl7 p h
def tl5 (p : PK) (h : Int) : List UInt8 := oL (bitA h 16) (cb (reqB p.req).length ++ reqB p.req) ++ tl6 p h
def tl4 (p : PK) (h : Int) : List UInt8 := oL (bitA h 8) (beBytes 1 (if p.ready then 1 else 0)) ++ tl5 p h
def tl3 (p : PK) (h : Int) : List UInt8 := oL (bitA h 4) (cb p.ballot.toNat) ++ tl4 p h
def tl2 (p : PK) (h : Int) : List UInt8 := oL (bitA h 2) (cb (p.seq + 1).toNat) ++ tl3 p h
def tl1 (p : PK) (h : Int) : List UInt8 := oL (bitA h 1) (cb p.num.toNat) ++ tl2 p h
theorem pkB_split (p : PK) : pkB p = beBytes 1 p.kind.toNat ++ (beBytes 1 p.frm.toNat ++ (beBytes 1 p.dst.toNat ++ tl1 p (fieldsP p.kind))) := by
  unfold pkB pk9 pk8 pk7 pk6 pk5 pk4 pk3 pk2 pk1 pkH
  simp only [aI_oL, tl1, tl2, tl3, tl4, tl5, tl6, tl7, tl8, tl9, List.append_assoc, List.nil_append, List.append_nil]
theorem RQ.same_iff (c d : RQ) : c.same d = true ↔ c = d := by
  obtain ⟨a1, a2, a3, a4, a5, a6⟩ := c
  obtain ⟨b1, b2, b3, b4, b5, b6⟩ := d
  simp [RQ.same]
theorem AN.same_iff (c d : AN) : c.same d = true ↔ c = d := by
  obtain ⟨a1, a2, a3, a4, a5, a6, a7⟩ := c
  obtain ⟨b1, b2, b3, b4, b5, b6, b7⟩ := d
  simp [AN.same]
theorem PK.same_iff (c d : PK) : c.same d = true ↔ c = d := by
  obtain ⟨a1, a2, a3, a4, a5, a6, a7, a8, a9, a10, a11, a12⟩ := c
  obtain ⟨b1, b2, b3, b4, b5, b6, b7, b8, b9, b10, b11, b12⟩ := d
  simp [PK.same, RQ.same_iff, AN.same_iff, CF.same_iff, vEq_iff]
theorem PK.same_refl (p : PK) : p.same p = true := (PK.same_iff p p).2 rfl
set_option maxHeartbeats 16000000 in
theorem has_any (F G : List Nat) (p : PK) (ev av cv vv bw wv : Value) (w : World) (h : pkV w F p ev av cv vv bw) (hw : bytesV w G wv (pkB p)) (hfl : fieldsAt w) (hb1 : i64P p.frm) (hb2 : i64P p.dst) (hok : p.ok = true) (hpb : parsePk (pkB p) = (p, 0)) :
    Calls Tryz.prog 92 #[.agg (pkL p ev av cv vv bw).toArray, wv] w fun e w' => e = .returned (.bool true) ∧ keepBut [] w w' := by
  have k1 := (keepBut.refl [] w).alloc (.cells (pkL p ev av cv vv bw).toArray 34)
  have r1 := rowAt.new w 34 (pkL p ev av cv vv bw).toArray
  obtain ⟨w1, hw1⟩ : ∃ w1, w.alloc (.cells (pkL p ev av cv vv bw).toArray 34) = w1 := ⟨_, rfl⟩
  rw [hw1] at k1 r1
  have hI : (Tryz.prog.info? 34).map (·.size) = some (pkL p ev av cv vv bw).length := by rw [pkL_len h.rn h.an]; exact info_pk
  have hpl : (pkB p).length ≤ 1000000 := by have := (pk_lens hok h.rn h.an).2.2.2.2.2.2.2.2.2; unfold pkB; omega
  have hone := pkL_one h.re.one h.ae.one h.cc.one h.vs.one h.bs.one (p := p)
  obtain ⟨WA, wc, wg, rfl, _, _, hsw, _⟩ := id hw
  have HS := Lib.hid (And.intro r1 (And.intro hI (And.intro k1 (And.intro (h.keep k1 (by simp)) (And.intro (hw.keep k1 (by simp)) (hfl.keep k1 (by simp)))))))
  have HP := Lib.hid (And.intro hpl (And.intro hpb (And.intro hone (And.intro h.rn (And.intro h.an hsw)))))
  have HW := Lib.hid hw1
  clear k1 r1 hw1 h hI hfl hpl hpb hone hw hsw
  go_enter Tryz.func92, Tryz.ntmps92
  go_upto_region 1 with (with_reducible refine wpList_box_agg _ rfl 34 (.tmp 0) rfl _ rfl ?_)
  rw [HW.out]
  go_upto_region 2 with (first
    | (refine wpList_load_mid rfl 34 (.tmp 2) rfl w.heap.size 0 rfl (pkL p ev av cv vv bw) _ HS.out.1.rangeAll Tryz.underlying34 rfl HS.out.2.1 ?_)
    | (go_at_call 7; refine (bytes_any F p ev av cv vv bw _ HS.out.2.2.2.1 HS.out.2.2.2.2.2 hb1 hb2 hok).mono ?_; rintro e w2 ⟨u, G2, rfl, ⟨A2, c2, g2, rfl, _, _, sn2, _⟩, nw2, kk2⟩; have H2 := Lib.hid (And.intro sn2 kk2); clear sn2 nw2 kk2))
  have K2 := Lib.hid (HS.out.2.2.1.then H2.out.2 (by simp))
  have zv := zv_pk
  obtain ⟨Z, hZ⟩ : ∃ Z, pkL pkZero nilV nilV nilV nilV nilV = Z := ⟨_, rfl⟩
  have zl := pkZ_len
  rw [hZ] at zv zl
  have HZ := Lib.hid (And.intro zv zl)
  clear zv zl hZ
  go_upto_region 3 with (first
    | (go_at_call 28; refine (parsePk_any G (pkB p) _ _ (HS.out.2.2.2.2.1.keep H2.out.2 (by simp)) HP.out.1 (HS.out.2.2.2.2.2.keep H2.out.2 (by simp))).mono ?_; rintro e w3 ⟨ev', av', cv', vv', bw', G3, rfl, hv3, _, kk3⟩; rw [HP.out.2.1] at *; have H3 := Lib.hid (And.intro hv3 kk3); clear hv3 kk3)
    | (with_reducible refine wpList_alloc_to _ _ rfl 34 rfl _ HZ.out.1 rfl ?_)
    | (refine wpList_store_mid rfl 34 (.tmp 7) (.tmp 17) rfl w3.heap.size 0 (pkL p ev' av' cv' vv' bw').toArray rfl rfl ((rowAt.new w3 34 Z.toArray).there (by simp only [List.size_toArray]; have h1 := HZ.out.2; have h2 := pkL_len (p := p) (ev := ev') (av := av') (cv := cv') (vv := vv') (bw := bw') HP.out.2.2.2.1 HP.out.2.2.2.2.1; omega)) (by rw [List.size_toArray, pkL_len HP.out.2.2.2.1 HP.out.2.2.2.2.1]; exact info_pk) (all_oneCell_toArray (pkL_one H3.out.1.re.one H3.out.1.ae.one H3.out.1.cc.one H3.out.1.vs.one H3.out.1.bs.one)) ?_))
  have k4a := (keepBut.refl [] w3).alloc (.cells Z.toArray 34)
  have hl2 := pkL_len (p := p) (ev := ev') (av := av') (cv := cv') (vv := vv') (bw := bw') HP.out.2.2.2.1 HP.out.2.2.2.2.1
  have r4 := (rowAt.new w3 34 Z.toArray).setL (vs := pkL p ev' av' cv' vv' bw') (o := 0)
  rw [putL_all (by simp only [List.size_toArray]; have h1 := HZ.out.2; omega)] at r4
  have k4 : keepBut [] w3 ((w3.alloc (.cells Z.toArray 34)).setCells w3.heap.size 0 (pkL p ev' av' cv' vv' bw')) := k4a.setL (.inr (Nat.le_refl _))
  obtain ⟨w4, hw4⟩ : ∃ w4, (w3.alloc (.cells Z.toArray 34)).setCells w3.heap.size 0 (pkL p ev' av' cv' vv' bw') = w4 := ⟨_, rfl⟩
  rw [hw4] at r4 k4 ⊢
  obtain ⟨tq, htq⟩ : ∃ t, w3.heap.size = t := ⟨_, rfl⟩
  rw [htq] at r4 ⊢
  have k24 := H3.out.2.then k4 (by simp)
  have k14 := H2.out.2.then k24 (by simp)
  have H4 := Lib.hid (And.intro r4 (And.intro (k14.row HS.out.1 (by simp)) (And.intro (HS.out.2.2.1.then k14 (by simp)) (And.intro (H2.out.1.keep k24 (by simp)) (And.intro (HP.out.2.2.2.2.2.keep (HS.out.2.2.1.then k14 (by simp)) (by simp)) (And.intro (HS.out.2.2.2.1.keep k14 (by simp)) (And.intro (H3.out.1.keep k4 (by simp)) (by rw [hl2]; exact info_pk : (Tryz.prog.info? 34).map (·.size) = some (pkL p ev' av' cv' vv' bw').length))))))))
  have hbeq : (pkB p == pkB p) = true := by simp
  clear k4a hl2 r4 k4 hw4 htq k24 k14
  go_wp2_with (first
    | (go_at_call 11; refine (eqBytes_any A2 WA g2 wg c2 wc (pkB p) (pkB p) _ H4.out.2.2.2.1 H4.out.2.2.2.2.1).mono ?_; rintro e w9 ⟨rfl, rfl⟩; rw [hbeq])
    | (refine wpList_load_mid_g 34 (.tmp 2) rfl w.heap.size 0 rfl (pkL p ev av cv vv bw) _ H4.out.2.1.rangeAll Tryz.underlying34 rfl HS.out.2.1 ?_ ?_; · rfl)
    | (refine wpList_load_mid_g 34 (.tmp 7) rfl tq 0 rfl (pkL p ev' av' cv' vv' bw') _ H4.out.1.rangeAll Tryz.underlying34 rfl H4.out.2.2.2.2.2.2.2 ?_ ?_; · rfl)
    | (go_at_call 12; refine (pkSame_any F G3 p p _ _ _ _ _ _ _ _ _ _ _ H4.out.2.2.2.2.2.1 H4.out.2.2.2.2.2.2.1).mono ?_; rintro e w10 ⟨rfl, k10⟩; rw [PK.same_refl]; have K10 := Lib.hid k10; clear k10))
  go_ret
  exact ⟨rfl, H4.out.2.2.1.then K10.out (by simp)⟩
end Go.Proofs.YthfdkonhjpdflaaGreatDoor
