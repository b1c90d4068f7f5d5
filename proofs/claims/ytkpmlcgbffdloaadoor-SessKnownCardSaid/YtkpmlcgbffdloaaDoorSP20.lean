/-
  SP20: SPlay20, SPlay21, joined.
-/
import Derived.Test.YtkpmlcgbffdloaaDoorSPlay16
import Derived.Test.YtkpmlcgbffdloaaDoorSPlay17
import Derived.Test.YtkpmlcgbffdloaaDoorSPlay18
import Derived.Test.YtkpmlcgbffdloaaDoorSP19
import Derived.BigRegion
section
namespace Go.Proofs.YtkpmlcgbffdloaaDoor
open Go.RowKit
set_option linter.unusedVariables false
set_option maxRecDepth 100000
set_option linter.unusedSimpArgs false

theorem packet_any (N : List Nat) (mb : Nat) (s : SS) (G : List Nat) (d : DO) (cv ev xe xa xc xv xb : Value) (w : World) (h : mOn N w mb s) (hd : doV w G d cv ev xe xa xc xv xb) (hG : ∀ y ∈ G, y < w.heap.size) :
    Calls Tryd.prog 32 #[.pointer (some ⟨mb, 0, none⟩), .agg (doL d cv ev xe xa xc xv xb).toArray] w (pktPost G (d.pkt s) w) := by
  obtain ⟨sv, sev, SF, hM, _⟩ := h.is
  have hb := h.fit.client
  unfold DO.pkt
  by_cases h5 : d.kind % 8 = 5
  · rw [if_pos h5]
    by_cases hl : d.chain.length ≤ 6
    · exact packet_conf1 mb s sv sev SF G d cv ev xe xa xc xv xb w hM hb hd hG h5 hl
    · exact packet_conf2 mb s sv sev SF G d cv ev xe xa xc xv xb w hM hb hd hG h5 (by omega)
  · rw [if_neg h5]
    by_cases h6 : d.kind % 8 = 6
    · rw [if_pos h6]
      by_cases hl : d.r.env.length ≤ 300
      · exact packet_ans1 mb s sv sev SF G d cv ev xe xa xc xv xb w hM hb hd hG h6 hl
      · exact packet_ans2 mb s sv sev SF G d cv ev xe xa xc xv xb w hM hb hd hG h6 (by omega)
    · rw [if_neg h6]
      by_cases h1 : d.p.ans.env.length ≤ 300
      · by_cases h2 : d.p.conf.chain.length ≤ 6
        · by_cases h3 : 0 < d.n.tmod 3
          · exact packet_other1 mb s sv sev SF G d cv ev xe xa xc xv xb w hM hb hd hG h5 h6 h1 h2 h3
          · exact packet_other2 mb s sv sev SF G d cv ev xe xa xc xv xb w hM hb hd hG h5 h6 h1 h2 h3
        · by_cases h3 : 0 < d.n.tmod 3
          · exact packet_other3 mb s sv sev SF G d cv ev xe xa xc xv xb w hM hb hd hG h5 h6 h1 (by omega) h3
          · exact packet_other4 mb s sv sev SF G d cv ev xe xa xc xv xb w hM hb hd hG h5 h6 h1 (by omega) h3
      · by_cases h2 : d.p.conf.chain.length ≤ 6
        · by_cases h3 : 0 < d.n.tmod 3
          · exact packet_other5 mb s sv sev SF G d cv ev xe xa xc xv xb w hM hb hd hG h5 h6 (by omega) h2 h3
          · exact packet_other6 mb s sv sev SF G d cv ev xe xa xc xv xb w hM hb hd hG h5 h6 (by omega) h2 h3
        · by_cases h3 : 0 < d.n.tmod 3
          · exact packet_other7 mb s sv sev SF G d cv ev xe xa xc xv xb w hM hb hd hG h5 h6 (by omega) (by omega) h3
          · exact packet_other8 mb s sv sev SF G d cv ev xe xa xc xv xb w hM hb hd hG h5 h6 (by omega) (by omega) h3
theorem DO.pkt_fit (d : DO) (s : SS) (he : d.p.ans.env.length ≤ maxLen) : (d.pkt s).ans.env.length ≤ 300 ∧ (d.pkt s).conf.chain.length ≤ 6 := by
  unfold DO.pkt
  split
  · exact ⟨Nat.zero_le _, by show (d.chain.take 6).length ≤ 6; rw [List.length_take]; omega⟩
  · split
    · exact ⟨by show (d.r.env.take 300).length ≤ 300; rw [List.length_take]; omega, Nat.zero_le _⟩
    · exact ⟨by show (d.p.ans.env.take 300).length ≤ 300; rw [List.length_take]; omega, by show (d.p.conf.chain.take 6).length ≤ 6; rw [List.length_take]; omega⟩
/-- both sessions, made by a law since w0 -/
structure lawB (w0 w : World) (p q m : Nat) (s : SS) : Prop where
  is : both [] w p q m s
  kept : keepBut [] w0 w
  far : w0.heap.size ≤ p ∧ w0.heap.size ≤ q ∧ w0.heap.size ≤ m
  sz : sizesAt w0
def stepPost (w0 : World) (p q m : Nat) (e : Ending) (w' : World) : Prop := e = .returned (.bool true) ∧ ∃ s', lawB w0 w' p q m s'
def xorRel (w0 w1 w7 : World) (iB : Nat) (R2 : List Value) (A : Option Addr) (n : Nat) (G : List Nat) (v : Value) (wx : World) : Prop :=
  ∃ i : Nat, i ≤ n ∧ v = .int .i64 (i : Int) ∧ Hid (rowAt wx iB 37 R2.toArray ∧ keepBut G w7 wx ∧ keepBut [] w0 wx ∧ turnsI .u8 w1 wx A n G)
set_option maxHeartbeats 8000000 in
theorem step_ask {w0 w : World} {p q m : Nat} {s : SS} (h : lawB w0 w p q m s) {G : List Nat} {d : DO} {cv ev xe xa xc xv xb : Value} (hd : doV w0 G d cv ev xe xa xc xv xb) (hk : d.kind % 8 < 2) :
    Calls Tryd.prog 11 #[.pointer (some ⟨p, 0, none⟩), .pointer (some ⟨m, 0, none⟩), .agg (doL d cv ev xe xa xc xv xb).toArray] w (stepPost w0 p q m) := by
  have hXl : (doL d cv ev xe xa xc xv xb).length = 127 := doL_len hd.r.1 hd.p.rn hd.p.an
  have x0 : (doL d cv ev xe xa xc xv xb).toArray[0]? = some (.int .i64 d.kind) := rfl
  have xr : ∀ j v, (rqL d.r ev)[j]? = some v → (doL d cv ev xe xa xc xv xb).toArray[3 + j]? = some v := doL_req d cv ev xe xa xc xv xb
  obtain ⟨X, hX⟩ : ∃ X, doL d cv ev xe xa xc xv xb = X := ⟨_, rfl⟩
  rw [hX] at hXl x0 xr ⊢
  obtain ⟨RX, hRX⟩ : ∃ R, rqL d.r ev = R := ⟨_, rfl⟩
  rw [hRX] at xr
  obtain ⟨Z, hZ⟩ : ∃ Z, rqL rqZero nilV = Z := ⟨_, rfl⟩
  have HZ := Lib.hid (show (Tryd.prog.info? 37).bind (·.zero) = some (.agg Z.toArray) ∧ Z.length = 37 by rw [← hZ]; exact ⟨zv_rq, rqL_len rqZero_name⟩)
  have k1 := (keepBut.refl [] w).alloc (.cells X.toArray 46)
  have r1 := rowAt.new w 46 X.toArray
  obtain ⟨w1, hw1⟩ : ∃ w1, w.alloc (.cells X.toArray 46) = w1 := ⟨_, rfl⟩
  rw [hw1] at k1 r1
  obtain ⟨b, hbb⟩ : ∃ b, w.heap.size = b := ⟨_, rfl⟩
  rw [hbb] at r1
  have y0 : w1.cell? ⟨b, 0, none⟩ = some (.int .i64 d.kind) := (r1.cell 0).trans x0
  obtain ⟨kk, hkk⟩ : ∃ k, d.kind % 8 = k := ⟨_, rfl⟩
  rw [hkk] at hk
  have HBK := Lib.hid (fun W => bring_any d.kind 8 hd.k.1 hd.k.2 (by decide) (by decide) W)
  rw [hkk] at HBK
  have K1 := h.kept.then k1 (by simp)
  have HC := Lib.hid (fun (W : World) (kW : keepBut [] w0 W) => cutReq_any G d.r ev W ⟨hd.r.1, hd.r.2.keep kW (by simp)⟩)
  rw [hRX] at HC
  have HRX := Lib.hid (show (Tryd.prog.info? 37).map (·.size) = some RX.length by rw [← hRX, rqL_len hd.r.1]; exact info_rqS)
  have H1 := Lib.hid (And.intro h (And.intro r1 (And.intro k1 (And.intro K1 (h.is.over k1)))))
  have H1r := Lib.hid (r1.range (o := 3) (fun j v hv => xr j v hv))
  have HW := Lib.hid hw1
  have hlen : d.r.cut.env.length ≤ 1000000 := Nat.le_trans (RQ.cut_len d.r) (by decide)
  have HLE := Lib.hid (And.intro hlen (show d.r.cut.name.length = 32 from hd.r.1))
  have HD := Lib.hid hd
  clear h hd hkk k1 r1 K1 hw1 hX hXl x0 xr hRX hZ hlen
  go_enter Tryd.func11, Tryd.ntmps11
  go_upto_region 4 with (first
    | (with_reducible refine wpList_box_to _ _ rfl 46 (.tmp 2) rfl _ rfl HW.out ?_; try simp only [hbb])
    | (go_at_call 16; (with_reducible refine (HBK.out _).mono ?_); rintro e w' ⟨rfl, rfl⟩)
    | (refine wpList_load_mid rfl 37 (.tmp 32) rfl b 3 rfl RX _ H1r.out Tryd.underlying37 rfl HRX.out ?_)
    | (go_at_call 27; (with_reducible refine (HC.out _ H1.out.2.2.2.1).mono ?_); rintro e w2 ⟨ev1, rfl, hv1, k2⟩; have HQ1 := Lib.hid (copyReqD_any G d.r.cut ev1 w2 hv1 HLE.out.1); obtain ⟨R1, hR1⟩ : ∃ R, rqL d.r.cut ev1 = R := ⟨_, rfl⟩; rw [hR1] at HQ1 ⊢; have H2 := Lib.hid k2; clear hv1 k2 hR1)
    | (go_at_call 26; (with_reducible refine HQ1.out.mono ?_); rintro e w3 ⟨ev2, rfl, G2, hv2, hn2, k3⟩; obtain ⟨R2, hR2⟩ : ∃ R, rqL d.r.cut ev2 = R := ⟨_, rfl⟩; have HR2 := Lib.hid (And.intro hR2 (And.intro (show R2.length = 37 by rw [← hR2]; exact rqL_len hv2.1) (show ∀ u ∈ R2, u.oneCell' = true by rw [← hR2]; exact rqL_one _ hv2.2.one))); rw [hR2]; have H3 := Lib.hid (And.intro hv2 (And.intro hn2 k3)); have hs := storedP (w := w3) (t := 37) (Z := Z) (X := R2) (by rw [HR2.out.2.1, HZ.out.2]); have hth := there_newP (w := w3) (t := 37) (Z := Z) (X := R2) (by rw [HR2.out.2.1, HZ.out.2]); obtain ⟨iB, hiB⟩ : ∃ i, w3.heap.size = i := ⟨_, rfl⟩; rw [hiB] at hs hth; have HST := Lib.hid (And.intro hs (And.intro hth hiB)); clear hv2 hn2 k3 hR2 hs hth)
    | (with_reducible refine wpList_alloc_to _ _ rfl 37 rfl _ HZ.out.1 rfl ?_; try simp only [hiB])
    | (refine wpList_store_mid rfl 37 (.tmp 8) (.tmp 35) rfl iB 0 R2.toArray rfl rfl HST.out.2.1 (by rw [List.size_toArray, HR2.out.2.1]; exact info_rqS) (by simpa using HR2.out.2.2) ?_))
  obtain ⟨⟨r4, k4⟩, _, _⟩ := HST.out
  generalize (w3.alloc (.cells Z.toArray 37)).setCells iB 0 R2 = w4 at r4 k4 ⊢
  have hb3 : both ([] ++ G2) w3 p q m s := (H1.out.2.2.2.2.over H2.out).also H3.out.2.2 H3.out.2.1
  have hb4 : both G2 w4 p q m s := hb3.over k4
  have hv4 : rqV w4 G2 d.r.cut ev2 := ⟨H3.out.1.1, H3.out.1.2.keep k4 (by simp)⟩
  have K4 := ((H1.out.2.2.2.1.then H2.out (by simp)).then H3.out.2.2 (by simp)).then k4 (by simp)
  have hGi : ∀ y ∈ G2, y < iB := fun y hy => by have a := (H3.out.2.1 y hy).2; have c := HST.out.2.2; omega
  have rb4 := (((H2.out.row H1.out.2.1 (by simp)) |> fun r => H3.out.2.2.row r (by simp)) |> fun r => k4.row r (by simp))
  have hlt := hb4.on.lt
  have hmt := hb4.ref.lt
  have hiw : w.heap.size ≤ iB ∧ w0.heap.size ≤ iB := by
    have a := H1.out.2.2.1.size
    have b := H2.out.size
    have c := H3.out.2.2.size
    have e := HST.out.2.2
    have f := H1.out.1.kept.size
    omega
  have hpl := H1.out.1.is.on.lt
  have hml := H1.out.1.is.ref.lt
  have hpi : p ≠ iB ∧ m ≠ iB ∧ p ≠ b ∧ m ≠ b := by omega
  have HPI := Lib.hid (And.intro hpi hiw)
  have HA := Lib.hid (hb4.on.ask hv4 (H1.out.1.sz.keep K4 (by simp)))
  rw [HR2.out.1] at HA
  have H4 := Lib.hid (And.intro r4 (And.intro rb4 (And.intro hb4 (And.intro K4 (And.intro hGi k4)))))
  have HX3 := Lib.hid (And.intro r4.rangeAll (show (Tryd.prog.info? 37).map (·.size) = some R2.length by rw [HR2.out.2.1]; exact info_rqS))
  clear r4 k4 hb3 hb4 hv4 K4 hGi rb4 hlt hmt hiw hpl hml hpi y0
  go_upto_region 5 with (first
    | (refine wpList_load_mid rfl 37 (.tmp 8) rfl iB 0 rfl R2 _ HX3.out.1 Tryd.underlying37 rfl HX3.out.2 ?_)
    | (go_at_call 28; (with_reducible refine HA.out.mono ?_); rintro e w5 ⟨rfl, ho5, k5⟩; have H5 := Lib.hid (And.intro ho5 k5); clear ho5 k5))
  have K5 : keepBut [] w0 w5 := H4.out.2.2.2.1.then H5.out.2 (fun x hx => .inr (by simp only [List.mem_singleton] at hx; subst hx; exact H1.out.1.far.1))
  have rb5 := H5.out.2.row H4.out.2.1 (by simpa using fun e => HPI.out.1.2.2.1 e.symm)
  have ri5 := H5.out.2.row H4.out.1 (by simpa using fun e => HPI.out.1.1 e.symm)
  have ho5 : mOn (p :: q :: G2) w5 m s := H4.out.2.2.1.ref.keep H5.out.2 (by simp)
  have H5r := Lib.hid (rb5.range (o := 3) (fun j v hv => (rb5.cell (3 + j)).symm.trans ((rb5.cell (3 + j)).trans (by have := H1r.out j v hv; rw [H1.out.2.1.cell] at this; exact this))))
  have H6 := Lib.hid (And.intro K5 (And.intro ri5 ho5))
  clear K5 rb5 ri5 ho5 HX3 HA
  go_wp2_with (first
    | (refine wpList_load_mid rfl 37 (.tmp 44) rfl b 3 rfl RX _ H5r.out Tryd.underlying37 rfl HRX.out ?_)
    | (go_at_call 27; (with_reducible refine (HC.out _ H6.out.1).mono ?_); rintro e w6 ⟨ev3, rfl, hv3, k6⟩; have HQ6 := Lib.hid ((H6.out.2.2.over k6).ask hv3); obtain ⟨R3, hR3⟩ : ∃ R, rqL d.r.cut ev3 = R := ⟨_, rfl⟩; rw [hR3] at HQ6 ⊢; have H7 := Lib.hid k6; clear hv3 k6 hR3)
    | (go_at_call 29; (with_reducible refine HQ6.out.mono ?_); rintro e w7 ⟨rfl, ho7, k7⟩; have H8 := Lib.hid (And.intro ho7 k7); clear ho7 k7))
  have k57 : keepBut [m] w5 w7 := (H7.out.more (by simp)).then H8.out.2 (fun x hx => .inl hx)
  have K7 : keepBut [] w0 w7 := H6.out.1.then k57 (fun x hx => .inr (by simp only [List.mem_singleton] at hx; subst hx; exact H1.out.1.far.2.2))
  have ri7 := k57.row H6.out.2.1 (by simpa using fun e => HPI.out.1.2.1 e.symm)
  have hb7 : both G2 w7 p q m (s.askP d.r.cut).2 := ⟨H5.out.1.keep k57 (by simp), H8.out.1⟩
  obtain ⟨A, c, rfl, hA1, hA2, ht⟩ := H3.out.1.2.turns H3.out.2.1
  obtain ⟨n, hn⟩ : ∃ n, d.r.cut.env.length = n := ⟨_, rfl⟩
  have hpG : ∀ y ∈ G2, y ≠ p ∧ y ≠ m := fun y hy => by
    have a := (H3.out.2.1 y hy).1
    have b1 := H1.out.1.is.on.lt
    have b2 := H1.out.1.is.ref.lt
    have b3 := H1.out.2.2.1.size
    have b4 := H2.out.size
    omega
  have ht7 : turnsI .u8 w2 w7 A d.r.cut.env.length G2 := by
    have k37 : keepBut [p, m] w3 w7 := ((H4.out.2.2.2.2.2.more (T := [p, m]) (by simp)).then H5.out.2 (fun x hx => .inl (by simp only [List.mem_singleton] at hx; simp [hx]))).then k57 (fun x hx => .inl (by simp only [List.mem_singleton] at hx; simp [hx]))
    exact ht.keep k37 (fun y hy hm => by have := hpG y hy; simp only [List.mem_cons, List.not_mem_nil, or_false] at hm; omega)
  have a36 : R2.toArray[36]? = some (.slice A n c) := by rw [← HR2.out.1, ← hn]; exact rqL_env HLE.out.2
  rw [hn] at ht7 hA1
  have hnm : n ≤ 9223372036854775807 := by unfold maxLen at hA2; omega
  have h2w : w0.heap.size ≤ w2.heap.size := (H1.out.2.2.2.1.then H2.out (by simp)).size
  have H9 := Lib.hid (And.intro ri7 (And.intro hb7 (And.intro K7 (And.intro ht7 (And.intro a36 h2w)))))
  have x1 : ((s.askP d.r.cut).1.1 == (s.askP d.r.cut).1.1) = true := by simp
  have x2 : ((s.askP d.r.cut).1.2 == (s.askP d.r.cut).1.2) = true := by simp
  obtain ⟨na, hna⟩ : ∃ n, (s.askP d.r.cut).1.1 = n := ⟨_, rfl⟩
  obtain ⟨ea, hea⟩ : ∃ n, (s.askP d.r.cut).1.2 = n := ⟨_, rfl⟩
  rw [hna] at x1 ⊢
  rw [hea] at x2 ⊢
  clear k57 K7 ri7 hb7 ht7 a36 hA1 hA2 ht hn hpG hna hea h2w
  go_loopw [13] (fun v13 wx => xorRel w0 w2 w7 iB R2 A n G2 v13 wx) (fun v13 _ => n - (intOf v13).toNat)
  case atStart => exact ⟨0, Nat.zero_le _, rfl, Lib.hid ⟨H9.out.1, keepBut.refl _ _, H9.out.2.2.1, H9.out.2.2.2.1⟩⟩
  case round =>
    obtain ⟨i, hil, rfl, HI⟩ := hrel
    have a36 : wr.cell? ⟨iB, 36, none⟩ = some (.slice A n c) := (HI.out.1.cell 36).trans H9.out.2.2.2.2.1
    by_cases hlt : i < n
    · obtain ⟨g, o, rfl, hg1, hg2, hg3, hg4⟩ := HI.out.2.2.2 (by omega)
      obtain ⟨z, hz⟩ := hg4 i hlt
      have hfr := HI.out.2.2.1.free (k := g) (by have := H9.out.2.2.2.2.2; omega) (o + i)
      have hi2 : (i : Int) < (n : Int) := by omega
      have hi0 : (0 : Int) ≤ (i : Int) := by omega
      have hwi : IntKind.i64.wrap ((i : Int) + 1) = (i : Int) + 1 := by rw [IntKind.wrap_i64]; omega
      have HG := Lib.hid (And.intro hg1 (And.intro hg2 hg3))
      clear hg1 hg2 hg3 hg4
      go_upto_region 9 with fail
      go_region
      have kk := ((keepBut.refl G2 wr).setCell ⟨g, o + i, none⟩ (.int .u8 (bits BinOp.xor IntKind.u8 z 90)) (.inl HG.out.1)).drew
      have K' := (HI.out.2.2.1.setCell ⟨g, o + i, none⟩ (.int .u8 (bits BinOp.xor IntKind.u8 z 90)) (.inr (Nat.le_trans H9.out.2.2.2.2.2 HG.out.2.1))).drew
      have r' := kk.row HI.out.1 (fun hm => by have := H4.out.2.2.2.2.1 _ hm; omega)
      have t' := (HI.out.2.2.2.set (u := bits BinOp.xor IntKind.u8 z 90) hlt).keep ((keepBut.refl [] _).drew) (by simp)
      generalize (wr.setCell ⟨g, o + i, none⟩ (.int .u8 (bits BinOp.xor IntKind.u8 z 90))).drew = wx at kk K' r' t' ⊢
      have HN := Lib.hid (And.intro r' (And.intro (HI.out.2.1.then kk (fun x hx => .inl hx)) (And.intro K' t')))
      clear kk K' r' t' hz hfr a36
      go_wp2_with fail
      go_roundw
      case rel => exact ⟨i + 1, by omega, by go_num, HN⟩
      case measure => simp only [intOf]; omega
    · obtain rfl : i = n := by omega
      go_wp2_with fail
      go_ret
      refine ⟨rfl, (s.askP d.r.cut).2, (H9.out.2.1.keep HI.out.2.1 (fun y hy => hy)).less (by simp), HI.out.2.2.1, H1.out.1.far, H1.out.1.sz⟩
end Go.Proofs.YtkpmlcgbffdloaaDoor
end

section
namespace Go.Proofs.YtkpmlcgbffdloaaDoor
open Go.RowKit
set_option linter.unusedVariables false
set_option maxRecDepth 100000
set_option linter.unusedSimpArgs false

theorem reqK_plain (s : SS) : s.reqK.plain := ⟨rfl, rfl, rfl, rfl, rfl⟩
theorem asksK_plain (s : SS) : ∀ x ∈ s.asksK, x.plain := fun x hx => by
  simp only [SS.asksK, List.mem_cons, List.not_mem_nil, or_false] at hx
  rcases hx with rfl | rfl | rfl <;> exact ⟨rfl, rfl, rfl, rfl, rfl⟩
theorem ifL_all {α : Type} {P : α → Prop} {b : Bool} {l : List α} (h : ∀ x ∈ l, P x) : ∀ x ∈ ifL b l, P x := fun x hx => by
  unfold ifL at hx
  split at hx
  · exact h x hx
  · simp at hx
theorem ifL_len {α : Type} {b : Bool} {l : List α} : (ifL b l).length ≤ l.length := by
  unfold ifL
  split
  · exact Nat.le_refl _
  · exact Nat.zero_le _
theorem tickP_plain (s : SS) : ∀ x ∈ s.tickP.1, x.plain := by
  unfold SS.tickP
  split
  · simp
  · split
    · simp
    · intro x hx
      have h1 : ∀ y ∈ [s.reqK], y.plain := fun y hy => by simp only [List.mem_singleton] at hy; subst hy; exact reqK_plain s
      have hx2 : x ∈ s.tickL := hx
      unfold SS.tickL at hx2
      rcases List.mem_append.1 hx2 with hx2 | hx2
      · exact ifL_all h1 x hx2
      · rcases List.mem_append.1 hx2 with hx2 | hx2
        · exact ifL_all (asksK_plain s) x hx2
        · exact ifL_all h1 x hx2
theorem tickP_len (s : SS) : s.tickP.1.length ≤ 5 := by
  unfold SS.tickP
  split
  · simp
  · split
    · simp
    · show s.tickL.length ≤ 5
      unfold SS.tickL
      rw [List.length_append, List.length_append]
      have a := ifL_len (b := !s.sent && decide (s.conf.chain ≠ [])) (l := [s.reqK])
      have b := ifL_len (b := !(s.sent || decide (s.conf.chain ≠ [])) || decide ((s.ticks + 1) % s.limit = 0)) (l := s.asksK)
      have c := ifL_len (b := decide ((s.ticks + 1) % s.limit = 0) && (!(!s.sent && decide (s.conf.chain ≠ [])) && decide (s.conf.chain ≠ []))) (l := [s.reqK])
      have e : s.asksK.length = 3 := rfl
      simp only [List.length_singleton] at a c
      omega
/-- the bytes of blocks K are there yet -/
def stayU8 (K : List Nat) (w w' : World) : Prop := ∀ g ∈ K, ∀ o, (∃ z, w.cell? ⟨g, o, none⟩ = some (.int .u8 z)) → ∃ z, w'.cell? ⟨g, o, none⟩ = some (.int .u8 z)
theorem stayU8.set {K : List Nat} {w w' : World} (h : stayU8 K w w') {g' o' : Nat} {z' : Int} (hz : w'.cell? ⟨g', o', none⟩ = some (.int .u8 z')) (u : Int) : stayU8 K w (w'.setCell ⟨g', o', none⟩ (.int .u8 u)) := fun g hg o ho => by
  obtain ⟨z, h1⟩ := h g hg o ho
  by_cases he : (⟨g', o', none⟩ : Addr) = ⟨g, o, none⟩
  · rw [← he]
    exact ⟨u, World.cell?_setCell_same _ _ _ hz⟩
  · exact ⟨z, by rw [World.cell?_setCell_other _ _ _ _ he]; exact h1⟩
theorem ownsO.itemL {w : World} {v : Value} {D : List (PK × List Value)} (h : ownsO w 44 87 v D.length (flatP D)) (hi : ∀ t ∈ D, t.2.length = 87) {i : Nat} {t : PK × List Value} (ht : D[i]? = some t) :
    ∃ g off c, v = .slice (some ⟨g, off, none⟩) D.length c ∧ g < w.heap.size ∧ (∀ j u, t.2[j]? = some u → w.cell? ⟨g, off + i * 87 + j, none⟩ = some u) := by
  obtain ⟨A, c, rfl, h1, h2, h3, h4⟩ := h.form
  have hlt : i < D.length := (List.getElem?_eq_some_iff.1 ht).1
  obtain ⟨g, off, rfl, hg, hh, hc⟩ := h.cell (by omega)
  refine ⟨g, off, c, rfl, hg, fun j u hu => ?_⟩
  have := hc _ u (flatP_at D i t hi ht j u hu)
  rw [show off + i * 87 + j = off + (i * 87 + j) by omega]
  exact this
theorem mOn.alsoS {N S M : List Nat} {w w1 : World} {m : Nat} {s : SS} (h : mOn N w m s) (hk : keepBut S w w1) (hS : ∀ y ∈ S, y ∈ N) (hM : newIn w w1 M) : mOn (N ++ M) w1 m s := by
  obtain ⟨cv, ev, F, h1, h2⟩ := h.is
  refine ⟨⟨cv, ev, F, h1.keep hk (fun hm => h.here (hS _ hm)) (fun y hy hm => h2 y hy (hS _ hm)), fun y hy hm => ?_⟩, h.fit, fun hm => ?_, fun y hy => ?_⟩
  · rcases List.mem_append.1 hm with hm | hm
    · exact h2 y hy hm
    · have a := (h1.far y hy).1
      have b := (hM y hm).1
      omega
  · rcases List.mem_append.1 hm with hm | hm
    · exact h.here hm
    · have a := h1.row.lt
      have b := (hM _ hm).1
      omega
  · rcases List.mem_append.1 hy with hy | hy
    · exact Nat.lt_of_lt_of_le (h.old y hy) hk.size
    · exact (hM y hy).2
structure xorS (w0 w4 : World) (v1 : Value) (D1 : List (PK × List Value)) (K1 : List Nat) (wx : World) : Prop where
  own : ownsO wx 44 87 v1 D1.length (flatP D1)
  k4 : keepBut K1 w4 wx
  k0 : keepBut [] w0 wx
  stay : stayU8 K1 w4 wx
set_option maxHeartbeats 8000000 in
theorem step_tick {w0 w : World} {p q m : Nat} {s : SS} (h : lawB w0 w p q m s) {G : List Nat} {d : DO} {cv ev xe xa xc xv xb : Value} (hd : doV w0 G d cv ev xe xa xc xv xb) (hk : ¬ d.kind % 8 < 2) (hk5 : d.kind % 8 < 5) :
    Calls Tryd.prog 11 #[.pointer (some ⟨p, 0, none⟩), .pointer (some ⟨m, 0, none⟩), .agg (doL d cv ev xe xa xc xv xb).toArray] w (stepPost w0 p q m) := by
  have x0 : (doL d cv ev xe xa xc xv xb).toArray[0]? = some (.int .i64 d.kind) := rfl
  obtain ⟨X, hX⟩ : ∃ X, doL d cv ev xe xa xc xv xb = X := ⟨_, rfl⟩
  rw [hX] at x0 ⊢
  have k1 := (keepBut.refl [] w).alloc (.cells X.toArray 46)
  have r1 := rowAt.new w 46 X.toArray
  obtain ⟨w1, hw1⟩ : ∃ w1, w.alloc (.cells X.toArray 46) = w1 := ⟨_, rfl⟩
  rw [hw1] at k1 r1
  obtain ⟨b, hbb⟩ : ∃ b, w.heap.size = b := ⟨_, rfl⟩
  rw [hbb] at r1
  have y0 : w1.cell? ⟨b, 0, none⟩ = some (.int .i64 d.kind) := (r1.cell 0).trans x0
  obtain ⟨kk, hkk⟩ : ∃ k, d.kind % 8 = k := ⟨_, rfl⟩
  rw [hkk] at hk hk5
  have HBK := Lib.hid (fun W => bring_any d.kind 8 hd.k.1 hd.k.2 (by decide) (by decide) W)
  rw [hkk] at HBK
  have hkg : 2 ≤ kk := by omega
  have hb1 := h.is.over k1
  have H1 := Lib.hid (And.intro h (And.intro hb1 (h.kept.then k1 (by simp))))
  have HW := Lib.hid hw1
  have HTK := Lib.hid hb1.on.tickK
  clear h hd hkk k1 r1 hw1 hX x0 hk hb1
  go_enter Tryd.func11, Tryd.ntmps11
  go_upto_region 13 with (first
    | (with_reducible refine wpList_box_to _ _ rfl 46 (.tmp 2) rfl _ rfl HW.out ?_; try simp only [hbb])
    | (go_at_call 16; (with_reducible refine (HBK.out _).mono ?_); rintro e w' ⟨rfl, rfl⟩)
    | (go_at_call 24; (with_reducible refine HTK.out.mono ?_); rintro e w2 ⟨v1, D1, K1, rfl, s1, o1, k2, ap1⟩; have HT2 := Lib.hid ((H1.out.2.1.ref.alsoS k2 (by simp) s1.newK).tick); have H2 := Lib.hid (And.intro s1 (And.intro o1 (And.intro k2 ap1))); clear s1 o1 k2 ap1)
    | (go_at_call 30; (with_reducible refine HT2.out.mono ?_); rintro e w3 ⟨v2, D2, K2, rfl, s2, o2, k3⟩; have H3 := Lib.hid (And.intro s2 (And.intro o2 k3)); clear s2 o2 k3))
  have hm1 := H1.out.2.1.ref.lt
  have hK1m : ∀ y ∈ K1, y ∉ [m] := fun y hy hm => by have a := (H2.out.1.newK y hy).1; simp only [List.mem_singleton] at hm; omega
  have hV1m : ∀ y ∈ homes v1, y ∉ [m] := fun y hy hm => by have a := H2.out.1.newV y hy; simp only [List.mem_singleton] at hm; omega
  have hDl : D1.length ≤ 5 := by have a := H2.out.1.ps; have b := tickP_len s; rw [← a, List.length_map] at b; exact b
  have hpl : ∀ t ∈ D1, t.1.plain := fun t ht => tickP_plain s _ (by rw [← H2.out.1.ps]; exact List.mem_map_of_mem ht)
  have HSP := Lib.hid (samePackets_any v1 v2 D1 D2 K1 K2 w3 (H2.out.1.own.keep H3.out.2.2 hV1m) H3.out.1.own (fun t ht => (H2.out.1.its t ht).keep H3.out.2.2 hK1m) H3.out.1.its (H2.out.1.ps.trans H3.out.1.ps.symm) hpl (by omega))
  have hbo : both K1 w3 p q m s.tickP.2 := ⟨(H2.out.2.1.keep H3.out.2.2 (by simp)).less (fun y hy => by simpa using hy), H3.out.2.1⟩
  have H4 := Lib.hid (And.intro hK1m (And.intro hV1m (And.intro hDl hbo)))
  clear hK1m hV1m hpl hbo hm1 HTK HT2 y0 hDl
  obtain ⟨A, c, rfl, hA1, hA2, _⟩ := H2.out.1.own.form
  obtain ⟨n, hn⟩ : ∃ n, D1.length = n := ⟨_, rfl⟩
  have HN := Lib.hid hn
  rw [hn] at HSP hA1 ⊢
  have hnm : n ≤ 9223372036854775807 := by unfold maxLen at hA2; omega
  clear hA1 hA2 hn
  go_wp2_with (first
    | (go_at_call 31; (with_reducible refine HSP.out.mono ?_); rintro e w4 ⟨rfl, k4⟩; have H5 := Lib.hid k4; clear k4))
  have hp1 := H1.out.2.1.on.lt
  have K4 : keepBut [] w0 w4 := (((H1.out.2.2.then H2.out.2.2.1 (fun x hx => .inr (by simp only [List.mem_cons, List.not_mem_nil, or_false] at hx; rcases hx with rfl | rfl; exact H1.out.1.far.1; exact H1.out.1.far.2.1))).then H3.out.2.2 (fun x hx => .inr (by simp only [List.mem_singleton] at hx; subst hx; exact H1.out.1.far.2.2))).then H5.out (by simp))
  have hown : ownsO w4 44 87 (.slice A D1.length c) D1.length (flatP D1) := (H2.out.1.own.keep H3.out.2.2 H4.out.2.1).keep H5.out (by simp)
  have hits : ∀ t ∈ D1, itemV w4 K1 t := fun t ht => ((H2.out.1.its t ht).keep H3.out.2.2 H4.out.1).keep H5.out (by simp)
  have hfar : ∀ y ∈ K1, w0.heap.size ≤ y := fun y hy => by have a := (H2.out.1.newK y hy).1; have b := H1.out.2.2.size; omega
  have H6 := Lib.hid (And.intro (⟨hown, keepBut.refl _ _, K4, fun g hg o ho => ho⟩ : xorS w0 w4 (.slice A D1.length c) D1 K1 w4) (And.intro hits (And.intro hfar (H4.out.2.2.2.over H5.out))))
  clear K4 hown hits hfar hp1 HSP
  go_loopw [17, 18] (fun v17 _ wx => ∃ i : Nat, i ≤ n ∧ v17 = .int .i64 (i : Int) ∧ Hid (xorS w0 w4 (.slice A D1.length c) D1 K1 wx)) (fun v17 _ _ => n - (intOf v17).toNat)
  case atStart => exact ⟨0, Nat.zero_le _, rfl, Lib.hid H6.out.1⟩
  case round =>
    obtain ⟨i, hil, rfl, HI⟩ := hrel
    by_cases hlt : i < n
    · have hlt' : i < D1.length := by rw [HN.out]; exact hlt
      obtain ⟨t, ht⟩ : ∃ t, D1[i]? = some t := ⟨D1[i], List.getElem?_eq_getElem hlt'⟩
      have htm := List.mem_of_getElem? ht
      obtain ⟨gp, off, c', hv, hgp, hcell⟩ := HI.out.own.itemL (fun t ht => (H6.out.2.1 t ht).len) ht
      injection hv with e1 e2 e3
      subst e1
      obtain ⟨ev', av', cv', vv', bw', f1, f2⟩ := H6.out.2.1 t htm
      obtain ⟨EA, Ec, Eg, rfl, hE1, hE2, hE3, hE4⟩ := f2.re
      obtain ⟨ne, hne⟩ : ∃ n, t.1.req.env.length = n := ⟨_, rfl⟩
      have c43 := hcell 43 (.slice EA ne Ec) (by rw [f1, ← hne]; have h1 := pkL_req (ev := .slice EA t.1.req.env.length Ec) (av := av') (cv := cv') (vv := vv') (bw := bw') (p := t.1) 36 (.slice EA t.1.req.env.length Ec) (by have := rqL_env (ev := .slice EA t.1.req.env.length Ec) f2.rn; simpa using this); simpa using h1)
      have hst : 0 < ne → ∃ ge oe, EA = some ⟨ge, oe, none⟩ ∧ ge ∈ K1 ∧ ∀ j, j < ne → ∃ z, w4.cell? ⟨ge, oe + j, none⟩ = some (.int .u8 z) := fun h0 => by
        have hne0 : t.1.req.env ≠ [] := by intro h1; rw [h1] at hne; simp at hne; omega
        obtain ⟨oe, q1, q2, q3⟩ := hE3 hne0
        exact ⟨Eg, oe, q1, hE4 hne0, fun j hj => ⟨_, q3 j t.1.req.env[j] (List.getElem?_eq_getElem (by omega))⟩⟩
      have hgK : gp ∉ K1 := fun hm => H2.out.2.2.2 gp hm (by simp [homes_some])
      have hi2 : (i : Int) < (n : Int) := by omega
      have hi0 : (0 : Int) ≤ (i : Int) := by omega
      have hwi : IntKind.i64.wrap ((i : Int) + 1) = (i : Int) + 1 := by rw [IntKind.wrap_i64]; omega
      rw [hne] at hE1
      have hnem : ne ≤ 9223372036854775807 := by unfold maxLen at hE2; omega
      have HS := Lib.hid (And.intro hst (And.intro hgK (And.intro hgp c43)))
      obtain ⟨wo, rfl⟩ : ∃ wo : World, wo = wr := ⟨_, rfl⟩
      clear hst hgK hgp c43 hcell f1 f2 hE1 hE2 hE3 hE4 htm ht hlt' hne e2 e3
      go_wp2_with fail
      go_loopw [18] (fun v18 wx => ∃ j : Nat, j ≤ ne ∧ v18 = .int .i64 (j : Int) ∧ Hid (xorS w0 w4 (.slice (some ⟨gp, off, none⟩) D1.length c) D1 K1 wx ∧ keepBut K1 wo wx)) (fun v18 _ => ne - (intOf v18).toNat)
      case atStart => exact ⟨0, Nat.zero_le _, rfl, Lib.hid ⟨HI.out, keepBut.refl _ _⟩⟩
      case round =>
        obtain ⟨j, hjl, rfl, HJ⟩ := hrel
        have c43 : wr.cell? ⟨gp, off + i * 87 + 43, none⟩ = some (.slice EA ne Ec) := (HJ.out.2.cell (p := ⟨gp, off + i * 87 + 43, none⟩) HS.out.2.2.1 HS.out.2.1).trans HS.out.2.2.2
        by_cases hjt : j < ne
        · obtain ⟨ge, oe, rfl, hK, hcl⟩ := HS.out.1 (by omega)
          obtain ⟨z, hz⟩ := HJ.out.1.stay ge hK _ (hcl j hjt)
          have hfr := HJ.out.1.k0.free (H6.out.2.2.1 ge hK) (oe + j)
          have hj2 : (j : Int) < (ne : Int) := by omega
          have hj0 : (0 : Int) ≤ (j : Int) := by omega
          have hwj : IntKind.i64.wrap ((j : Int) + 1) = (j : Int) + 1 := by rw [IntKind.wrap_i64]; omega
          have HK := Lib.hid hK
          clear hcl hK
          go_upto_region 20 with fail
          go_region
          have kk := ((keepBut.refl K1 wr).setCell ⟨ge, oe + j, none⟩ (.int .u8 (bits BinOp.xor IntKind.u8 z 90)) (.inl HK.out)).drew
          have K' := (HJ.out.1.k0.setCell ⟨ge, oe + j, none⟩ (.int .u8 (bits BinOp.xor IntKind.u8 z 90)) (.inr (H6.out.2.2.1 ge HK.out))).drew
          have o' := HJ.out.1.own.keep kk (fun x hx hm => H2.out.2.2.2 x hm hx)
          have t' : stayU8 K1 w4 ((wr.setCell ⟨ge, oe + j, none⟩ (.int .u8 (bits BinOp.xor IntKind.u8 z 90))).drew) := HJ.out.1.stay.set hz (bits BinOp.xor IntKind.u8 z 90)
          generalize (wr.setCell ⟨ge, oe + j, none⟩ (.int .u8 (bits BinOp.xor IntKind.u8 z 90))).drew = wx at kk K' o' t' ⊢
          have HNX := Lib.hid (And.intro (⟨o', HJ.out.1.k4.then kk (fun x hx => .inl hx), K', t'⟩ : xorS w0 w4 (.slice (some ⟨gp, off, none⟩) D1.length c) D1 K1 wx) (HJ.out.2.then kk (fun x hx => .inl hx)))
          clear kk K' o' t' hz hfr c43
          go_wp2_with fail
          go_roundw
          case rel => exact ⟨j + 1, by omega, by go_num, HNX⟩
          case measure => simp only [intOf]; omega
        · obtain rfl : j = ne := by omega
          go_wp2_with fail
          go_roundw
          case rel => exact ⟨i + 1, by omega, by go_num, Lib.hid HJ.out.1⟩
          case measure => simp only [intOf]; omega
    · obtain rfl : i = n := by omega
      go_wp2_with fail
      go_ret
      exact ⟨rfl, s.tickP.2, (H6.out.2.2.2.keep HI.out.k4 (fun y hy => hy)).less (by simp), HI.out.k0, H1.out.1.far, H1.out.1.sz⟩
end Go.Proofs.YtkpmlcgbffdloaaDoor
end
