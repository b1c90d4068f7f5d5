/-
  PKJ: Pk36, Pk37, joined.
-/
import Derived.Test.YthfdkonhjpdflaaGreatDoorPk33
section
namespace Go.Proofs.YthfdkonhjpdflaaGreatDoor
open Go.RowKit
set_option linter.unusedVariables false
set_option maxRecDepth 100000
set_option linter.unusedSimpArgs false

/-! packets -/
def oL (b : Int) (m : List UInt8) : List UInt8 := if b = 0 then [] else m
theorem aI_oL (b : Int) (l m : List UInt8) : aI b l m = l ++ oL b m := by unfold aI oL; split <;> simp
theorem oL_off {b : Int} (m : List UInt8) (h : b = 0) : oL b m = [] := by unfold oL; rw [if_pos h]
theorem oL_on {b : Int} (m : List UInt8) (h : b ≠ 0) : oL b m = m := by unfold oL; rw [if_neg h]
def tl9 (p : PK) (h : Int) : List UInt8 := oL (bitA h 256) (cb p.bytes.length ++ p.bytes) ++ []
def tl8 (p : PK) (h : Int) : List UInt8 := oL (bitA h 128) (beBytes 1 p.votes.length ++ vtsE p.votes) ++ tl9 p h
def tl7 (p : PK) (h : Int) : List UInt8 := oL (bitA h 64) (cb (cfB p.conf).length ++ cfB p.conf) ++ tl8 p h
def tl6 (p : PK) (h : Int) : List UInt8 := oL (bitA h 32) (cb (ansB p.ans).length ++ ansB p.ans) ++ tl7 p h
def tl5 (p : PK) (h : Int) : List UInt8 := oL (bitA h 16) (cb (reqB p.req).length ++ reqB p.req) ++ tl6 p h
def tl4 (p : PK) (h : Int) : List UInt8 := oL (bitA h 8) (beBytes 1 (if p.ready then 1 else 0)) ++ tl5 p h
def tl3 (p : PK) (h : Int) : List UInt8 := oL (bitA h 4) (cb p.ballot.toNat) ++ tl4 p h
def tl2 (p : PK) (h : Int) : List UInt8 := oL (bitA h 2) (cb (p.seq + 1).toNat) ++ tl3 p h
def tl1 (p : PK) (h : Int) : List UInt8 := oL (bitA h 1) (cb p.num.toNat) ++ tl2 p h
theorem pkB_split (p : PK) : pkB p = beBytes 1 p.kind.toNat ++ (beBytes 1 p.frm.toNat ++ (beBytes 1 p.dst.toNat ++ tl1 p (fieldsP p.kind))) := by
  unfold pkB pk9 pk8 pk7 pk6 pk5 pk4 pk3 pk2 pk1 pkH
  simp only [aI_oL, tl1, tl2, tl3, tl4, tl5, tl6, tl7, tl8, tl9, List.append_assoc, List.nil_append, List.append_nil]
theorem RQ.same_iff (c d : RQ) : c.same d = true ↔ c = d := by
  obtain ⟨a1, a2, a3, a4, a5, a6⟩ := c
  obtain ⟨b1, b2, b3, b4, b5, b6⟩ := d
  simp [RQ.same]
theorem AN.same_iff (c d : AN) : c.same d = true ↔ c = d := by
  obtain ⟨a1, a2, a3, a4, a5, a6, a7⟩ := c
  obtain ⟨b1, b2, b3, b4, b5, b6, b7⟩ := d
  simp [AN.same]
theorem PK.same_iff (c d : PK) : c.same d = true ↔ c = d := by
  obtain ⟨a1, a2, a3, a4, a5, a6, a7, a8, a9, a10, a11, a12⟩ := c
  obtain ⟨b1, b2, b3, b4, b5, b6, b7, b8, b9, b10, b11, b12⟩ := d
  simp [PK.same, RQ.same_iff, AN.same_iff, CF.same_iff, vEq_iff]
theorem PK.same_refl (p : PK) : p.same p = true := (PK.same_iff p p).2 rfl
set_option maxHeartbeats 16000000 in
theorem has_any (F G : List Nat) (p : PK) (ev av cv vv bw wv : Value) (w : World) (h : pkV w F p ev av cv vv bw) (hw : bytesV w G wv (pkB p)) (hfl : fieldsAt w) (hb1 : i64P p.frm) (hb2 : i64P p.dst) (hok : p.ok = true) (hpb : parsePk (pkB p) = (p, 0)) :
    Calls Tryz.prog 92 #[.agg (pkL p ev av cv vv bw).toArray, wv] w fun e w' => e = .returned (.bool true) ∧ keepBut [] w w' := by
  have k1 := (keepBut.refl [] w).alloc (.cells (pkL p ev av cv vv bw).toArray 34)
  have r1 := rowAt.new w 34 (pkL p ev av cv vv bw).toArray
  obtain ⟨w1, hw1⟩ : ∃ w1, w.alloc (.cells (pkL p ev av cv vv bw).toArray 34) = w1 := ⟨_, rfl⟩
  rw [hw1] at k1 r1
  have hI : (Tryz.prog.info? 34).map (·.size) = some (pkL p ev av cv vv bw).length := by rw [pkL_len h.rn h.an]; exact info_pk
  have hpl : (pkB p).length ≤ 1000000 := by have := (pk_lens hok h.rn h.an).2.2.2.2.2.2.2.2.2; unfold pkB; omega
  have hone := pkL_one h.re.one h.ae.one h.cc.one h.vs.one h.bs.one (p := p)
  obtain ⟨WA, wc, wg, rfl, _, _, hsw, _⟩ := id hw
  have HS := Lib.hid (And.intro r1 (And.intro hI (And.intro k1 (And.intro (h.keep k1 (by simp)) (And.intro (hw.keep k1 (by simp)) (hfl.keep k1 (by simp)))))))
  have HP := Lib.hid (And.intro hpl (And.intro hpb (And.intro hone (And.intro h.rn (And.intro h.an hsw)))))
  have HW := Lib.hid hw1
  clear k1 r1 hw1 h hI hfl hpl hpb hone hw hsw
  go_enter Tryz.func92, Tryz.ntmps92
  go_upto_region 1 with (with_reducible refine wpList_box_agg _ rfl 34 (.tmp 0) rfl _ rfl ?_)
  rw [HW.out]
  go_upto_region 2 with (first
    | (refine wpList_load_mid rfl 34 (.tmp 2) rfl w.heap.size 0 rfl (pkL p ev av cv vv bw) _ HS.out.1.rangeAll Tryz.underlying34 rfl HS.out.2.1 ?_)
    | (go_at_call 7; refine (bytes_any F p ev av cv vv bw _ HS.out.2.2.2.1 HS.out.2.2.2.2.2 hb1 hb2 hok).mono ?_; rintro e w2 ⟨u, G2, rfl, ⟨A2, c2, g2, rfl, _, _, sn2, _⟩, nw2, kk2⟩; have H2 := Lib.hid (And.intro sn2 kk2); clear sn2 nw2 kk2))
  have K2 := Lib.hid (HS.out.2.2.1.then H2.out.2 (by simp))
  have zv := zv_pk
  obtain ⟨Z, hZ⟩ : ∃ Z, pkL pkZero nilV nilV nilV nilV nilV = Z := ⟨_, rfl⟩
  have zl := pkZ_len
  rw [hZ] at zv zl
  have HZ := Lib.hid (And.intro zv zl)
  clear zv zl hZ
  go_upto_region 3 with (first
    | (go_at_call 28; refine (parsePk_any G (pkB p) _ _ (HS.out.2.2.2.2.1.keep H2.out.2 (by simp)) HP.out.1 (HS.out.2.2.2.2.2.keep H2.out.2 (by simp))).mono ?_; rintro e w3 ⟨ev', av', cv', vv', bw', G3, rfl, hv3, _, kk3⟩; rw [HP.out.2.1] at *; have H3 := Lib.hid (And.intro hv3 kk3); clear hv3 kk3)
    | (with_reducible refine wpList_alloc_to _ _ rfl 34 rfl _ HZ.out.1 rfl ?_)
    | (refine wpList_store_mid rfl 34 (.tmp 7) (.tmp 17) rfl w3.heap.size 0 (pkL p ev' av' cv' vv' bw').toArray rfl rfl ((rowAt.new w3 34 Z.toArray).there (by simp only [List.size_toArray]; have h1 := HZ.out.2; have h2 := pkL_len (p := p) (ev := ev') (av := av') (cv := cv') (vv := vv') (bw := bw') HP.out.2.2.2.1 HP.out.2.2.2.2.1; omega)) (by rw [List.size_toArray, pkL_len HP.out.2.2.2.1 HP.out.2.2.2.2.1]; exact info_pk) (all_oneCell_toArray (pkL_one H3.out.1.re.one H3.out.1.ae.one H3.out.1.cc.one H3.out.1.vs.one H3.out.1.bs.one)) ?_))
  have k4a := (keepBut.refl [] w3).alloc (.cells Z.toArray 34)
  have hl2 := pkL_len (p := p) (ev := ev') (av := av') (cv := cv') (vv := vv') (bw := bw') HP.out.2.2.2.1 HP.out.2.2.2.2.1
  have r4 := (rowAt.new w3 34 Z.toArray).setL (vs := pkL p ev' av' cv' vv' bw') (o := 0)
  rw [putL_all (by simp only [List.size_toArray]; have h1 := HZ.out.2; omega)] at r4
  have k4 : keepBut [] w3 ((w3.alloc (.cells Z.toArray 34)).setCells w3.heap.size 0 (pkL p ev' av' cv' vv' bw')) := k4a.setL (.inr (Nat.le_refl _))
  obtain ⟨w4, hw4⟩ : ∃ w4, (w3.alloc (.cells Z.toArray 34)).setCells w3.heap.size 0 (pkL p ev' av' cv' vv' bw') = w4 := ⟨_, rfl⟩
  rw [hw4] at r4 k4 ⊢
  obtain ⟨tq, htq⟩ : ∃ t, w3.heap.size = t := ⟨_, rfl⟩
  rw [htq] at r4 ⊢
  have k24 := H3.out.2.then k4 (by simp)
  have k14 := H2.out.2.then k24 (by simp)
  have H4 := Lib.hid (And.intro r4 (And.intro (k14.row HS.out.1 (by simp)) (And.intro (HS.out.2.2.1.then k14 (by simp)) (And.intro (H2.out.1.keep k24 (by simp)) (And.intro (HP.out.2.2.2.2.2.keep (HS.out.2.2.1.then k14 (by simp)) (by simp)) (And.intro (HS.out.2.2.2.1.keep k14 (by simp)) (And.intro (H3.out.1.keep k4 (by simp)) (by rw [hl2]; exact info_pk : (Tryz.prog.info? 34).map (·.size) = some (pkL p ev' av' cv' vv' bw').length))))))))
  have hbeq : (pkB p == pkB p) = true := by simp
  clear k4a hl2 r4 k4 hw4 htq k24 k14
  go_wp2_with (first
    | (go_at_call 11; refine (eqBytes_any A2 WA g2 wg c2 wc (pkB p) (pkB p) _ H4.out.2.2.2.1 H4.out.2.2.2.2.1).mono ?_; rintro e w9 ⟨rfl, rfl⟩; rw [hbeq])
    | (refine wpList_load_mid_g 34 (.tmp 2) rfl w.heap.size 0 rfl (pkL p ev av cv vv bw) _ H4.out.2.1.rangeAll Tryz.underlying34 rfl HS.out.2.1 ?_ ?_; · rfl)
    | (refine wpList_load_mid_g 34 (.tmp 7) rfl tq 0 rfl (pkL p ev' av' cv' vv' bw') _ H4.out.1.rangeAll Tryz.underlying34 rfl H4.out.2.2.2.2.2.2.2 ?_ ?_; · rfl)
    | (go_at_call 12; refine (pkSame_any F G3 p p _ _ _ _ _ _ _ _ _ _ _ H4.out.2.2.2.2.2.1 H4.out.2.2.2.2.2.2.1).mono ?_; rintro e w10 ⟨rfl, k10⟩; rw [PK.same_refl]; have K10 := Lib.hid k10; clear k10))
  go_ret
  exact ⟨rfl, H4.out.2.2.1.then K10.out (by simp)⟩
end Go.Proofs.YthfdkonhjpdflaaGreatDoor
end

section
namespace Go.Proofs.YthfdkonhjpdflaaGreatDoor
open Go.RowKit
set_option linter.unusedVariables false
set_option maxRecDepth 100000
set_option linter.unusedSimpArgs false

theorem wpList_build_c {P : Program} (w : World) {ops : Array Oper} {rest : List Oper} {o : Oper} {a : Act} {Q : Exit → Act → World → Prop} (t : TypeId) (parts : Array (Nat × Operand)) (ho : o.op = .build t parts) (cells : Array Value)
    (hb : P.built t (parts.map fun (i, x) => (i, a.eval x)).toList = some cells) (hw : Region.wanted o (yielded ops a.tmps) = true) (h : wpList P ops Q rest (a.put o.dst (.agg cells)) w) : wpList P ops Q (o :: rest) a w :=
  wpList_wantedP hw fun K hK => by
    have hK' := hK _ _ h
    unfold Oper.wp execOp
    simp only [ho, Sem.run_bind, run_build w t _ cells hb, Result.andThen_ok]
    exact hK'
theorem cb_small (n : Nat) (h : n < 128) : cb n = [UInt8.ofNat n] := by
  unfold cb
  rw [show n / 128 = 0 by omega, cbHi_zero, show n % 128 = n by omega]
  rfl
theorem cb_two (n : Nat) (h1 : 128 ≤ n) (h2 : n < 16384) : cb n = [UInt8.ofNat (128 + n / 128), UInt8.ofNat (n % 128)] := by
  unfold cb
  rw [cbHi_pos (n / 128) (by omega), show n / 128 / 128 = 0 by omega, cbHi_zero, show n / 128 % 128 = n / 128 by omega]
  rfl
def pkE1 : PK := ⟨4, 11, 10, 3, 200, 0, false, rqZero, anZero, cfZero, [], []⟩
def pkE2 : PK := ⟨5, 12, 11, 300, -1, 0, false, rqZero, anZero, cfZero, [], []⟩
def pkE3 : PK := ⟨8, 10, 2, 0, 0, 0, true, rqZero, anZero, cfZero, [], []⟩
def pkE4 : PK := ⟨9, 0, 0, 1, 0, 0, false, rqZero, anZero, cfZero, [], []⟩
def pkE5 : PK := ⟨7, 0, 0, 0, 0, 0, false, rqZero, anZero, ⟨0, 1, [10, 10]⟩, [], []⟩
def cfE : CF := ⟨2, 1, [11, 10]⟩
theorem pkE1_ok : pkE1.ok = true := by kernel_rfl
theorem pkE2_ok : pkE2.ok = true := by kernel_rfl
theorem pkE3_ok : pkE3.ok = true := by kernel_rfl
theorem pkE4_ok : pkE4.ok = false := by kernel_rfl
theorem pkE5_ok : pkE5.ok = false := by kernel_rfl
theorem cfE_ok : cfE.ok = true := by kernel_rfl
theorem pkE1_b : pkB pkE1 = [4, 11, 10, 3, 129, 73] := by
  rw [pkB_split, show fieldsP pkE1.kind = 3 from rfl]
  unfold tl1 tl2 tl3 tl4 tl5 tl6 tl7 tl8 tl9
  rw [oL_on _ (show bitA 3 1 ≠ 0 by decide), oL_on _ (show bitA 3 2 ≠ 0 by decide), oL_off _ (show bitA 3 4 = 0 by decide), oL_off _ (show bitA 3 8 = 0 by decide), oL_off _ (show bitA 3 16 = 0 by decide), oL_off _ (show bitA 3 32 = 0 by decide), oL_off _ (show bitA 3 64 = 0 by decide), oL_off _ (show bitA 3 128 = 0 by decide), oL_off _ (show bitA 3 256 = 0 by decide)]
  rw [show pkE1.num.toNat = 3 from rfl, show (pkE1.seq + 1).toNat = 201 from rfl, cb_small 3 (by omega), cb_two 201 (by omega) (by omega)]
  rfl
theorem pkE2_b : pkB pkE2 = [5, 12, 11, 130, 44, 0] := by
  rw [pkB_split, show fieldsP pkE2.kind = 3 from rfl]
  unfold tl1 tl2 tl3 tl4 tl5 tl6 tl7 tl8 tl9
  rw [oL_on _ (show bitA 3 1 ≠ 0 by decide), oL_on _ (show bitA 3 2 ≠ 0 by decide), oL_off _ (show bitA 3 4 = 0 by decide), oL_off _ (show bitA 3 8 = 0 by decide), oL_off _ (show bitA 3 16 = 0 by decide), oL_off _ (show bitA 3 32 = 0 by decide), oL_off _ (show bitA 3 64 = 0 by decide), oL_off _ (show bitA 3 128 = 0 by decide), oL_off _ (show bitA 3 256 = 0 by decide)]
  rw [show pkE2.num.toNat = 300 from rfl, show (pkE2.seq + 1).toNat = 0 from rfl, cb_small 0 (by omega), cb_two 300 (by omega) (by omega)]
  rfl
theorem pkE3_b : pkB pkE3 = [8, 10, 2, 0, 1] := by
  rw [pkB_split, show fieldsP pkE3.kind = 9 from rfl]
  unfold tl1 tl2 tl3 tl4 tl5 tl6 tl7 tl8 tl9
  rw [oL_on _ (show bitA 9 1 ≠ 0 by decide), oL_off _ (show bitA 9 2 = 0 by decide), oL_off _ (show bitA 9 4 = 0 by decide), oL_on _ (show bitA 9 8 ≠ 0 by decide), oL_off _ (show bitA 9 16 = 0 by decide), oL_off _ (show bitA 9 32 = 0 by decide), oL_off _ (show bitA 9 64 = 0 by decide), oL_off _ (show bitA 9 128 = 0 by decide), oL_off _ (show bitA 9 256 = 0 by decide)]
  rw [show pkE3.num.toNat = 0 from rfl, cb_small 0 (by omega)]
  rfl
theorem cfE_b : cfB cfE = [2, 1, 2, 11, 10] := by
  unfold cfB
  rw [show cfE.num.toNat = 2 from rfl, cb_small 2 (by omega)]
  rfl
theorem pkE1_p : parsePk (pkB pkE1) = (pkE1, 0) := by rw [pkE1_b]; kernel_rfl
theorem pkE2_p : parsePk (pkB pkE2) = (pkE2, 0) := by rw [pkE2_b]; kernel_rfl
theorem pkE3_p : parsePk (pkB pkE3) = (pkE3, 0) := by rw [pkE3_b]; kernel_rfl
theorem eqE1 : (((((Tryz.zeroCells34.setIfInBounds 0 (.int .i64 4)).setIfInBounds 1 (.int .i64 11)).setIfInBounds 2 (.int .i64 10)).setIfInBounds 3 (.int .i64 3)).setIfInBounds 4 (.int .i64 200)) = (pkL pkE1 nilV nilV nilV nilV nilV).toArray := by kernel_rfl
theorem eqE2 : (((((Tryz.zeroCells34.setIfInBounds 0 (.int .i64 5)).setIfInBounds 1 (.int .i64 12)).setIfInBounds 2 (.int .i64 11)).setIfInBounds 3 (.int .i64 300)).setIfInBounds 4 (.int .i64 (-1))) = (pkL pkE2 nilV nilV nilV nilV nilV).toArray := by kernel_rfl
theorem eqE3 : ((((Tryz.zeroCells34.setIfInBounds 0 (.int .i64 8)).setIfInBounds 1 (.int .i64 10)).setIfInBounds 2 (.int .i64 2)).setIfInBounds 6 (.bool true)) = (pkL pkE3 nilV nilV nilV nilV nilV).toArray := by kernel_rfl
theorem eqE4 : ((Tryz.zeroCells34.setIfInBounds 0 (.int .i64 9)).setIfInBounds 3 (.int .i64 1)) = (pkL pkE4 nilV nilV nilV nilV nilV).toArray := by kernel_rfl
theorem eqE5 (A : Option Addr) (n c : Nat) : ((((Tryz.zeroCells34.setIfInBounds 0 (.int .i64 7)).setIfInBounds 82 (.int .i64 0)).setIfInBounds 83 (.int .i64 1)).setIfInBounds 84 (.slice A n c)) = (pkL pkE5 nilV nilV (.slice A n c) nilV nilV).toArray := by kernel_rfl
theorem val_E (w : World) (p : PK) (hr : p.req = rqZero) (ha : p.ans = anZero) (hc : p.conf = cfZero) (hv : p.votes = []) (hb : p.bytes = []) : pkV w [] p nilV nilV nilV nilV nilV := by
  obtain ⟨a1, a2, a3, a4, a5, a6, a7, a8, a9, a10, a11, a12⟩ := p
  dsimp only at hr ha hc hv hb
  subst hr ha hc hv hb
  exact ⟨rqZero_name, anZero_name, bytesV.nil _ _, bytesV.nil _ _, intsV.nil _ _, votesV.nil _ _, bytesV.nil _ _⟩
/-- a row of bytes that was just made -/
theorem bytesV.row {w : World} {g : Nat} {t : TypeId} {l : List UInt8} (h : rowAt w g t (l.map bv).toArray) (hm : l.length ≤ maxLen) : bytesV w [g] (.slice (some ⟨g, 0, none⟩) l.length l.length) l :=
  ⟨_, _, g, rfl, Nat.le_refl _, hm, fun hne => ⟨0, rfl, h.lt, fun j b hb => by rw [h.cell]; simp [hb]⟩, fun _ => by simp⟩
theorem intsV.row {w : World} {g : Nat} {t : TypeId} {l : List Int} (h : rowAt w g t (l.map (Value.int .i64)).toArray) (hm : l.length ≤ maxLen) : intsV w [g] (.slice (some ⟨g, 0, none⟩) l.length l.length) l :=
  ⟨_, _, g, rfl, Nat.le_refl _, hm, ⟨by simp, fun hne => ⟨0, rfl, h.lt, fun j u hu => by rw [h.cell]; simpa using hu⟩⟩, fun _ => by simp⟩
theorem row5 (j : Nat) (b : UInt8) (hb : ([2, 1, 2, 11, 10] : List UInt8)[j]? = some b) : (#[Value.int .u8 2, .int .u8 1, .int .u8 2, .int .u8 11, .int .u8 10] : Array Value)[0 + j]? = some (bv b) := by
  rw [Nat.zero_add]
  match j, hb with
  | 0, hb => injection hb with hb; subst hb; rfl
  | 1, hb => injection hb with hb; subst hb; rfl
  | 2, hb => injection hb with hb; subst hb; rfl
  | 3, hb => injection hb with hb; subst hb; rfl
  | 4, hb => injection hb with hb; subst hb; rfl
set_option maxHeartbeats 16000000 in
theorem works_any (w : World) (hfl : fieldsAt w) :
    Calls Tryz.prog 26 #[] w fun e w' => e = .returned (.bool true) ∧ keepBut [] w w' := by
  have H0 := Lib.hid hfl
  clear hfl
  go_enter Tryz.func26, Tryz.ntmps26
  go_upto_region 1 with fail
  go_upto_region 2 with (first
    | (go_at_call 92; rw [eqE1]; refine (has_any [] [w.heap.size] pkE1 _ _ _ _ _ _ _ (val_E _ pkE1 rfl rfl rfl rfl rfl) (by rw [pkE1_b]; exact bytesV.row (l := [4, 11, 10, 3, 129, 73]) (rowAt.new w _ _) (by unfold maxLen; decide)) (H0.out.keep ((keepBut.refl [] w).alloc _) (by simp)) (by unfold i64P; decide) (by unfold i64P; decide) pkE1_ok pkE1_p).mono ?_; rintro e w1 ⟨rfl, k1⟩; have K1 := Lib.hid (((keepBut.refl [] w).alloc _).then k1 (by simp)); clear k1)
    | (go_at_call 92; rw [eqE2]; refine (has_any [] [w1.heap.size] pkE2 _ _ _ _ _ _ _ (val_E _ pkE2 rfl rfl rfl rfl rfl) (by rw [pkE2_b]; exact bytesV.row (l := [5, 12, 11, 130, 44, 0]) (rowAt.new w1 _ _) (by unfold maxLen; decide)) (H0.out.keep (K1.out.then ((keepBut.refl [] w1).alloc _) (by simp)) (by simp)) (by unfold i64P; decide) (by unfold i64P; decide) pkE2_ok pkE2_p).mono ?_; rintro e w2 ⟨rfl, k1⟩; have K2 := Lib.hid ((K1.out.then ((keepBut.refl [] w1).alloc _) (by simp)).then k1 (by simp)); clear k1)
    | (go_at_call 92; rw [eqE3]; refine (has_any [] [w2.heap.size] pkE3 _ _ _ _ _ _ _ (val_E _ pkE3 rfl rfl rfl rfl rfl) (by rw [pkE3_b]; exact bytesV.row (l := [8, 10, 2, 0, 1]) (rowAt.new w2 _ _) (by unfold maxLen; decide)) (H0.out.keep (K2.out.then ((keepBut.refl [] w2).alloc _) (by simp)) (by simp)) (by unfold i64P; decide) (by unfold i64P; decide) pkE3_ok pkE3_p).mono ?_; rintro e w3 ⟨rfl, k1⟩; have K3 := Lib.hid ((K2.out.then ((keepBut.refl [] w2).alloc _) (by simp)).then k1 (by simp)); clear k1))
  go_upto_region 3 with (first
    | (go_at_call 18; refine (bytesConf_any [w3.heap.size] cfE _ _ (intsV.row (l := [11, 10]) (rowAt.new w3 _ _) (by unfold maxLen; decide)) cfE_ok).mono ?_; rintro e w4 ⟨u, G4, rfl, ⟨A4, c4, g4, rfl, _, _, sn4, _⟩, nw4, kk4⟩; have K4 := Lib.hid ((K3.out.then ((keepBut.refl [] w3).alloc _) (by simp)).then kk4 (by simp)); have H4 := Lib.hid sn4; clear sn4 nw4 kk4))
  have hbe : (cfB cfE == [2, 1, 2, 11, 10]) = true := by rw [cfE_b]; rfl
  go_wp2_with (first
    | (go_at_call 11; refine (eqBytes_any A4 (some ⟨w4.heap.size, 0, none⟩) g4 w4.heap.size c4 5 (cfB cfE) [2, 1, 2, 11, 10] _ (H4.out.keep ((keepBut.refl [] w4).alloc _) (by simp)) (fun _ => ⟨0, rfl, (rowAt.new w4 _ _).lt, fun j b hb => by rw [(rowAt.new w4 _ _).cell]; exact row5 j b hb⟩)).mono ?_; rintro e w5 ⟨rfl, rfl⟩; rw [hbe])
    | (go_at_call 9; rw [eqE4]; refine (check_any [] pkE4 _ _ _ _ _ _ (val_E _ pkE4 rfl rfl rfl rfl rfl) (H0.out.keep (K4.out.then ((keepBut.refl [] w4).alloc _) (by simp)) (by simp)) (by unfold i64P; decide) (by unfold i64P; decide)).mono ?_; rintro e w6 ⟨rfl, k1⟩; rw [pkE4_ok]; have K6 := Lib.hid ((K4.out.then ((keepBut.refl [] w4).alloc _) (by simp)).then k1 (by simp)); clear k1)
    | (go_at_call 9; rw [eqE5]; refine (check_any [w6.heap.size] pkE5 _ _ _ _ _ _ ⟨rqZero_name, anZero_name, bytesV.nil _ _, bytesV.nil _ _, intsV.row (l := [10, 10]) (rowAt.new w6 _ _) (by unfold maxLen; decide), votesV.nil _ _, bytesV.nil _ _⟩ (H0.out.keep (K6.out.then ((keepBut.refl [] w6).alloc _) (by simp)) (by simp)) (by unfold i64P; decide) (by unfold i64P; decide)).mono ?_; rintro e w7 ⟨rfl, k1⟩; rw [pkE5_ok]; have K7 := Lib.hid ((K6.out.then ((keepBut.refl [] w6).alloc _) (by simp)).then k1 (by simp)); clear k1))
  go_ret
  exact ⟨rfl, K7.out⟩
end Go.Proofs.YthfdkonhjpdflaaGreatDoor
end
