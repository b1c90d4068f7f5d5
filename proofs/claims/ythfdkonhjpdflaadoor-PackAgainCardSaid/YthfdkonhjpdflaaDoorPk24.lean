/-
  PACK, 24: Bytes.
-/
import Derived.Test.YthfdkonhjpdflaaDoorPk23
import Derived.Test.YthfdkonhjpdflaaDoorPk16
namespace Go.Proofs.YthfdkonhjpdflaaDoor
open Go.RowKit
set_option linter.unusedVariables false
set_option maxRecDepth 100000
set_option linter.unusedSimpArgs false

def aI (b : Int) (l m : List UInt8) : List UInt8 := if b = 0 then l else l ++ m
/-- the head of a packet's bytes -/
def pkH (p : PK) : List UInt8 := (([] ++ beBytes 1 p.kind.toNat) ++ beBytes 1 p.frm.toNat) ++ beBytes 1 p.dst.toNat
def pk1 (p : PK) (h : Int) : List UInt8 := aI (bitA h 1) (pkH p) (cb p.num.toNat)
def pk2 (p : PK) (h : Int) : List UInt8 := aI (bitA h 2) (pk1 p h) (cb (p.seq + 1).toNat)
def pk3 (p : PK) (h : Int) : List UInt8 := aI (bitA h 4) (pk2 p h) (cb p.ballot.toNat)
def pk4 (p : PK) (h : Int) : List UInt8 := aI (bitA h 8) (pk3 p h) (beBytes 1 (if p.ready then 1 else 0))
def pk5 (p : PK) (h : Int) : List UInt8 := aI (bitA h 16) (pk4 p h) (cb (reqB p.req).length ++ reqB p.req)
def pk6 (p : PK) (h : Int) : List UInt8 := aI (bitA h 32) (pk5 p h) (cb (ansB p.ans).length ++ ansB p.ans)
def pk7 (p : PK) (h : Int) : List UInt8 := aI (bitA h 64) (pk6 p h) (cb (cfB p.conf).length ++ cfB p.conf)
def pk8 (p : PK) (h : Int) : List UInt8 := aI (bitA h 128) (pk7 p h) (beBytes 1 p.votes.length ++ vtsE p.votes)
def pk9 (p : PK) (h : Int) : List UInt8 := aI (bitA h 256) (pk8 p h) (cb p.bytes.length ++ p.bytes)
def pkB (p : PK) : List UInt8 := pk9 p (fieldsP p.kind)
theorem PK.ok_facts {p : PK} (h : p.ok = true) : fieldsP p.kind ≠ 0 ∧ nodeP p.frm = true ∧ nodeP p.dst = true ∧ p.same (p.cut (fieldsP p.kind)) = true ∧ (0 ≤ p.num ∧ p.num ≤ 9007199254740991) ∧ (0 ≤ p.ballot ∧ p.ballot ≤ 9007199254740991) ∧ seqP p.kind p.seq = true ∧ p.bytes.length ≤ 32768 ∧ (bitA (fieldsP p.kind) 16 = 0 ∨ p.req.ok = true) ∧ (bitA (fieldsP p.kind) 32 = 0 ∨ p.ans.ok = true) ∧ (bitA (fieldsP p.kind) 64 = 0 ∨ p.conf.ok = true) ∧ vtsOk p.votes = true := by
  unfold PK.ok PK.parts at h
  simpa only [Bool.and_eq_true, Bool.or_eq_true, inP_iff, decide_eq_true_eq, beq_iff_eq, Bool.not_eq_true', beq_eq_false_iff_ne, ne_eq] using h
theorem fieldsP_kind {k : Int} (h : fieldsP k ≠ 0) : 1 ≤ k ∧ k ≤ 14 := by
  unfold fieldsP at h
  split at h
  · rename_i hk
    by_cases e : k = 0
    · subst e; exact absurd rfl h
    · omega
  · exact absurd rfl h
theorem nodeP_range {n : Int} (h : nodeP n = true) : 0 ≤ n ∧ n ≤ 22 := by
  unfold nodeP at h
  simp only [Bool.or_eq_true, inP_iff] at h
  omega
theorem seqP_range {k n : Int} (h : seqP k n = true) : -1 ≤ n ∧ n ≤ 9007199254740990 := by
  unfold seqP at h
  rw [inP_iff] at h
  split at h <;> omega
theorem reqB_len {r : RQ} (h : r.ok = true) (hn : r.name.length = 32) : (reqB r).length ≤ 1082 := by
  have hf := r.ok_facts h
  have h1 := cb8 (n := r.num) hf.2.1.2
  have h2 := cb8 (n := r.version) hf.2.2.2.1.2
  have h3 := cb8 (n := (r.env.length : Int)) (by omega)
  rw [Int.toNat_natCast] at h3
  unfold reqB
  simp only [List.length_append, be1, List.length_nil, hn]
  omega
theorem ansB_len {r : AN} (h : r.ok = true) (hn : r.name.length = 32) : (ansB r).length ≤ 1083 := by
  have hf := r.ok_facts h
  have h1 := cb8 (n := r.num) hf.2.1.2
  have h2 := cb8 (n := r.version) hf.2.2.2.1.2
  have h3 := cb8 (n := (r.env.length : Int)) (by omega)
  rw [Int.toNat_natCast] at h3
  unfold ansB
  simp only [List.length_append, be1, List.length_nil, hn]
  omega
theorem aI_len {b : Int} {l m : List UInt8} {n k : Nat} (h1 : l.length ≤ n) (h2 : b = 0 ∨ m.length ≤ k) : (aI b l m).length ≤ n + k := by
  unfold aI
  split
  · omega
  · rename_i hb
    rw [List.length_append]
    have := h2.resolve_left hb
    omega
theorem aI_off {b : Int} (l m : List UInt8) (h : b = 0) : aI b l m = l := by unfold aI; rw [if_pos h]
theorem aI_on {b : Int} (l m : List UInt8) (h : b ≠ 0) : aI b l m = l ++ m := by unfold aI; rw [if_neg h]
theorem pk_lens {p : PK} (h : p.ok = true) (hn : p.req.name.length = 32) (ha : p.ans.name.length = 32) :
    (pkH p).length ≤ 3 ∧ (pk1 p (fieldsP p.kind)).length ≤ 11 ∧ (pk2 p (fieldsP p.kind)).length ≤ 19 ∧ (pk3 p (fieldsP p.kind)).length ≤ 27 ∧ (pk4 p (fieldsP p.kind)).length ≤ 28 ∧ (pk5 p (fieldsP p.kind)).length ≤ 1118 ∧ (pk6 p (fieldsP p.kind)).length ≤ 2209 ∧ (pk7 p (fieldsP p.kind)).length ≤ 2231 ∧ (pk8 p (fieldsP p.kind)).length ≤ 2472 ∧ (pk9 p (fieldsP p.kind)).length ≤ 35248 := by
  obtain ⟨h1, h2, h3, h4, h5, h6, h7, h8, h9, h10, h11, h12⟩ := p.ok_facts h
  have hs := seqP_range h7
  generalize fieldsP p.kind = f at *
  have e0 : (pkH p).length ≤ 3 := by unfold pkH; simp only [List.length_append, be1, List.length_nil]; omega
  have e1 : (pk1 p f).length ≤ 11 := aI_len e0 (.inr (cb8 h5.2))
  have e2 : (pk2 p f).length ≤ 19 := aI_len e1 (.inr (cb8 (by omega)))
  have e3 : (pk3 p f).length ≤ 27 := aI_len e2 (.inr (cb8 h6.2))
  have e4 : (pk4 p f).length ≤ 28 := aI_len (k := 1) e3 (.inr (by rw [be1]; omega))
  have hc : ∀ n : Nat, n ≤ 100000 → (cb n).length ≤ 8 := fun n hn => by have := cb8 (n := (n : Int)) (by omega); rwa [Int.toNat_natCast] at this
  have e5 : (pk5 p f).length ≤ 1118 := aI_len (k := 1090) e4 (h9.imp id (fun h => by have := reqB_len h hn; have := hc (reqB p.req).length (by omega); rw [List.length_append]; omega))
  have e6 : (pk6 p f).length ≤ 2209 := aI_len (k := 1091) e5 (h10.imp id (fun h => by have := ansB_len h ha; have := hc (ansB p.ans).length (by omega); rw [List.length_append]; omega))
  have e7 : (pk7 p f).length ≤ 2231 := aI_len (k := 22) e6 (h11.imp id (fun h => by have := cfB_len h; have := hc (cfB p.conf).length (by omega); rw [List.length_append]; omega))
  have e8 : (pk8 p f).length ≤ 2472 := aI_len (k := 241) e7 (.inr (by
    unfold vtsOk at h12
    rw [Bool.and_eq_true, decide_eq_true_eq] at h12
    have := vtsE_len _ h12.2
    rw [List.length_append, be1]; omega))
  have e9 : (pk9 p f).length ≤ 35248 := aI_len (k := 32776) e8 (.inr (by have := hc p.bytes.length (by omega); rw [List.length_append]; omega))
  exact ⟨e0, e1, e2, e3, e4, e5, e6, e7, e8, e9⟩
set_option maxHeartbeats 4000000 in
theorem bytes_no (F : List Nat) (p : PK) (ev av cv vv bw : Value) (w : World) (h : pkV w F p ev av cv vv bw) (hfl : fieldsAt w) (hb1 : i64P p.frm) (hb2 : i64P p.dst) (hok : p.ok = false) :
    Calls Tryd.prog 8 #[.agg (pkL p ev av cv vv bw).toArray] w fun e w' => e = .returned (.tuple #[.slice none 0 0, .int .i64 2]) ∧ keepBut [] w w' := by
  have k1 := (keepBut.refl [] w).alloc (.cells (pkL p ev av cv vv bw).toArray 38)
  have r1 := rowAt.new w 38 (pkL p ev av cv vv bw).toArray
  obtain ⟨w1, hw1⟩ : ∃ w1, w.alloc (.cells (pkL p ev av cv vv bw).toArray 38) = w1 := ⟨_, rfl⟩
  rw [hw1] at k1 r1
  have hI : (Tryd.prog.info? 38).map (·.size) = some (pkL p ev av cv vv bw).length := by rw [pkL_len h.rn h.an]; exact info_pk
  have HS := Lib.hid (And.intro r1.rangeAll (And.intro hI (And.intro k1 (And.intro (h.keep k1 (by simp)) (hfl.keep k1 (by simp))))))
  have HW := Lib.hid hw1
  clear k1 r1 hw1 h hI hfl
  go_enter Tryd.func8, Tryd.ntmps8
  go_upto_region 1 with (with_reducible refine wpList_box_agg _ rfl 38 (.tmp 0) rfl _ rfl ?_)
  rw [HW.out]
  go_upto_region 2 with (first
    | (refine wpList_load_mid rfl 38 (.tmp 1) rfl w.heap.size 0 rfl (pkL p ev av cv vv bw) _ HS.out.1 Tryd.underlying38 rfl HS.out.2.1 ?_)
    | (go_at_call 10; refine (check_any F p ev av cv vv bw _ HS.out.2.2.2.1 HS.out.2.2.2.2 hb1 hb2).mono ?_; rintro e w2 ⟨rfl, kk⟩; rw [hok]; have K2 := Lib.hid (HS.out.2.2.1.then kk (by simp)); clear kk))
  go_wp2_with fail
  go_ret2
  exact ⟨rfl, K2.out⟩
set_option maxHeartbeats 16000000 in
theorem bytes_any (F : List Nat) (p : PK) (ev av cv vv bw : Value) (w : World) (h : pkV w F p ev av cv vv bw) (hfl : fieldsAt w) (hb1 : i64P p.frm) (hb2 : i64P p.dst) (hok : p.ok = true) :
    Calls Tryd.prog 8 #[.agg (pkL p ev av cv vv bw).toArray] w (outPost w (pkB p)) := by
  have hf := p.ok_facts hok
  have k1 := (keepBut.refl [] w).alloc (.cells (pkL p ev av cv vv bw).toArray 38)
  have r1 := rowAt.new w 38 (pkL p ev av cv vv bw).toArray
  obtain ⟨w1, hw1⟩ : ∃ w1, w.alloc (.cells (pkL p ev av cv vv bw).toArray 38) = w1 := ⟨_, rfl⟩
  rw [hw1] at k1 r1
  have hI : (Tryd.prog.info? 38).map (·.size) = some (pkL p ev av cv vv bw).length := by rw [pkL_len h.rn h.an]; exact info_pk
  have HS := Lib.hid (And.intro r1.rangeAll (And.intro hI (And.intro k1 (And.intro (h.keep k1 (by simp)) (hfl.keep k1 (by simp))))))
  have HW := Lib.hid hw1
  have HR1 := Lib.hid r1
  have HF := Lib.hid hf
  have HP := Lib.hid h
  have hrn := h.rn
  have han := h.an
  clear k1 r1 hw1 h hI hfl hf
  obtain ⟨A0, c0, g0, rfl, _⟩ := id HP.out.re
  obtain ⟨A1, c1, g1, rfl, _⟩ := id HP.out.ae
  obtain ⟨A2, c2, g2, rfl, _⟩ := id HP.out.cc
  obtain ⟨A3, c3, g3, T3, rfl, _⟩ := id HP.out.vs
  obtain ⟨A4, c4, g4, rfl, _, _, hs4, _⟩ := id HP.out.bs
  have HS4 := Lib.hid hs4
  clear hs4
  go_enter Tryd.func8, Tryd.ntmps8
  go_upto_region 1 with (with_reducible refine wpList_box_agg _ rfl 38 (.tmp 0) rfl _ rfl ?_)
  rw [HW.out]
  go_upto_region 2 with (first
    | (refine wpList_load_mid rfl 38 (.tmp 1) rfl w.heap.size 0 rfl (pkL p _ _ _ _ _) _ HS.out.1 Tryd.underlying38 rfl HS.out.2.1 ?_)
    | (go_at_call 10; refine (check_any F p _ _ _ _ _ _ HS.out.2.2.2.1 HS.out.2.2.2.2 hb1 hb2).mono ?_; rintro e w2 ⟨rfl, kk⟩; rw [hok]; have r2 := kk.row HR1.out (by simp); have K2 := Lib.hid (HS.out.2.2.1.then kk (by simp)); have F2 := Lib.hid (HS.out.2.2.2.2.keep kk (by simp)); clear kk))
  obtain ⟨tb, htb⟩ : ∃ tb, w.heap.size = tb := ⟨_, rfl⟩
  have HP2 := Lib.hid (HP.out.keep K2.out (by simp))
  rw [htb] at r2 ⊢
  have HTB := Lib.hid htb
  have x0 : w2.cell? ⟨tb, 0, none⟩ = some (.int .i64 p.kind) := (r2.cell 0).trans rfl
  clear htb
  go_upto_region 5 with (first
    | (go_at_call 27; refine (fieldsOf_any p.kind _ F2.out).mono ?_; rintro e w' ⟨rfl, rfl⟩))
  have z0 : w2.drew.cell? ⟨tb, 0, none⟩ = some (.int .i64 p.kind) := x0
  have z1 : w2.drew.cell? ⟨tb, 1, none⟩ = some (.int .i64 p.frm) := (r2.cell 1).trans rfl
  have z2 : w2.drew.cell? ⟨tb, 2, none⟩ = some (.int .i64 p.dst) := (r2.cell 2).trans rfl
  have r2d : rowAt w2.drew tb 38 _ := r2
  have PA : Hid (∀ wx, keepBut [] w2.drew wx → pkAt wx tb p (.slice A0 p.req.env.length c0) (.slice A1 p.ans.env.length c1) (.slice A2 p.conf.chain.length c2) (.slice A3 p.votes.length c3) (.slice A4 p.bytes.length c4)) := Lib.hid (fun wx k => (k.row r2d (by simp)).pk hrn han)
  have Z0 : w2.drew.cell? ⟨tb, 0, none⟩ = some (.int .i64 p.kind) ∧ w2.drew.cell? ⟨tb, 1, none⟩ = some (.int .i64 p.frm) ∧ w2.drew.cell? ⟨tb, 2, none⟩ = some (.int .i64 p.dst) := ⟨z0, z1, z2⟩
  have KD := Lib.hid (K2.out.then ((keepBut.refl [] w2).drew) (by simp))
  have HPD := Lib.hid (HP2.out.keep ((keepBut.refl [] w2).drew) (by simp))
  have HLS := Lib.hid (pk_lens hok hrn han)
  have HKD := Lib.hid (And.intro (fieldsP_kind HF.out.1) (And.intro (nodeP_range HF.out.2.1) (nodeP_range HF.out.2.2.1)))
  clear r2 r2d x0 z0 z1 z2
  go_region_held3 (fun w' => w'.cell? ⟨tb, 0, none⟩ = some (.int .i64 p.kind) ∧ w'.cell? ⟨tb, 1, none⟩ = some (.int .i64 p.frm) ∧ w'.cell? ⟨tb, 2, none⟩ = some (.int .i64 p.dst)) (first | exact Z0 | exact Y0 | exact Y1 | exact Y2 | exact Y3)
    (first
      | (go_at_call 28; refine wOk.start.mono ?_; rintro e v0 ⟨q, rfl, o0⟩; have O0 := Lib.hid o0; have Y0 := And.intro (PA.out _ o0.kept).c0 (And.intro (PA.out _ o0.kept).c1 (PA.out _ o0.kept).c2); clear o0)
      | (go_at_call 29; (with_reducible refine (O0.out.num p.kind (by have := HKD.out; omega) (by have := HKD.out; omega) (by simp)).mono ?_); rintro e v1 ⟨rfl, o1⟩; have O1 := Lib.hid o1; have Y1 := And.intro (PA.out _ o1.kept).c0 (And.intro (PA.out _ o1.kept).c1 (PA.out _ o1.kept).c2); clear o1)
      | (go_at_call 29; (with_reducible refine (O1.out.num p.frm (by have := HKD.out; omega) (by have := HKD.out; omega) (by simp only [List.length_append, be1, List.length_nil]; omega)).mono ?_); rintro e v2 ⟨rfl, o2⟩; have O2 := Lib.hid o2; have Y2 := And.intro (PA.out _ o2.kept).c0 (And.intro (PA.out _ o2.kept).c1 (PA.out _ o2.kept).c2); clear o2)
      | (go_at_call 29; (with_reducible refine (O2.out.num p.dst (by have := HKD.out; omega) (by have := HKD.out; omega) (by simp only [List.length_append, be1, List.length_nil]; omega)).mono ?_); rintro e v3 ⟨rfl, o3⟩; have O3 := Lib.hid o3; have Y3 := And.intro (PA.out _ o3.kept).c0 (And.intro (PA.out _ o3.kept).c1 (PA.out _ o3.kept).c2); clear o3))
  clear O0 O1 O2 Y0 Y1 Y2 Y3 Z0
  have O : Hid (wOk w2.drew v3 q (pkH p)) := O3
  clear O3
  obtain ⟨f, hf⟩ : ∃ f, fieldsP p.kind = f := ⟨_, rfl⟩
  rw [hf] at HF HLS ⊢
  have HFF := Lib.hid hf
  clear hf
  go_upto_if 27 with fail
  go_cut [] (fun wx => wOk w2.drew wx q (pk1 p f))
  case first =>
   by_cases hb : bitA f 1 = 0
   · have hbb : (bits .and .i64 f 1 != 0) = false := by have := hb; unfold bitA at this; simp [this]
     have E := Lib.hid (aI_off (pkH p) (cb p.num.toNat) hb)
     clear hb
     go_wp2_with fail
     go_meet
     exact (by rw [show pk1 p f = _ from E.out]; exact O.out)
   · have hbb : (bits .and .i64 f 1 != 0) = true := by have := hb; unfold bitA at this; simp [this]
     have E := Lib.hid (aI_on (pkH p) (cb p.num.toNat) hb)
     have y := (PA.out _ O.out.kept).c3
     go_wp2_with (first
       | (go_at_call 30; refine (O.out.count p.num HF.out.2.2.2.2.1.1 HF.out.2.2.2.2.1.2 (by have := HLS.out; omega)).mono ?_; rintro e wx ⟨rfl, ox⟩))
     go_meet
     exact (by rw [show pk1 p f = _ from E.out]; exact ox)
  have O := Lib.hid hcut
  clear hcut
  go_upto_if 34 with fail
  go_cut [] (fun wx => wOk w2.drew wx q (pk2 p f))
  case first =>
   by_cases hb : bitA f 2 = 0
   · have hbb : (bits .and .i64 f 2 != 0) = false := by have := hb; unfold bitA at this; simp [this]
     have E := Lib.hid (aI_off (pk1 p f) (cb (p.seq + 1).toNat) hb)
     clear hb
     go_wp2_with fail
     go_meet
     exact (by rw [show pk2 p f = _ from E.out]; exact O.out)
   · have hbb : (bits .and .i64 f 2 != 0) = true := by have := hb; unfold bitA at this; simp [this]
     have E := Lib.hid (aI_on (pk1 p f) (cb (p.seq + 1).toNat) hb)
     have y := (PA.out _ O.out.kept).c4
     have hws : IntKind.i64.wrap (p.seq + 1) = p.seq + 1 := wraps_i64 _ (by have := seqP_range HF.out.2.2.2.2.2.2.1; omega) (by have := seqP_range HF.out.2.2.2.2.2.2.1; omega)
     go_wp2_with (first
       | (go_at_call 30; refine (O.out.count (p.seq + 1) (by have := seqP_range HF.out.2.2.2.2.2.2.1; omega) (by have := seqP_range HF.out.2.2.2.2.2.2.1; omega) (by have := HLS.out; omega)).mono ?_; rintro e wx ⟨rfl, ox⟩))
     go_meet
     exact (by rw [show pk2 p f = _ from E.out]; exact ox)
  have O := Lib.hid hcut
  clear hcut
  go_upto_if 42 with fail
  go_cut [] (fun wx => wOk w2.drew wx q (pk3 p f))
  case first =>
   by_cases hb : bitA f 4 = 0
   · have hbb : (bits .and .i64 f 4 != 0) = false := by have := hb; unfold bitA at this; simp [this]
     have E := Lib.hid (aI_off (pk2 p f) (cb p.ballot.toNat) hb)
     clear hb
     go_wp2_with fail
     go_meet
     exact (by rw [show pk3 p f = _ from E.out]; exact O.out)
   · have hbb : (bits .and .i64 f 4 != 0) = true := by have := hb; unfold bitA at this; simp [this]
     have E := Lib.hid (aI_on (pk2 p f) (cb p.ballot.toNat) hb)
     have y := (PA.out _ O.out.kept).c5
     go_wp2_with (first
       | (go_at_call 30; refine (O.out.count p.ballot HF.out.2.2.2.2.2.1.1 HF.out.2.2.2.2.2.1.2 (by have := HLS.out; omega)).mono ?_; rintro e wx ⟨rfl, ox⟩))
     go_meet
     exact (by rw [show pk3 p f = _ from E.out]; exact ox)
  have O := Lib.hid hcut
  clear hcut
  go_upto_if 49 with fail
  go_cut [] (fun wx => wOk w2.drew wx q (pk4 p f))
  case first =>
   by_cases hb : bitA f 8 = 0
   · have hbb : (bits .and .i64 f 8 != 0) = false := by have := hb; unfold bitA at this; simp [this]
     have E := Lib.hid (aI_off (pk3 p f) (beBytes 1 (if p.ready then 1 else 0)) hb)
     clear hb
     go_wp2_with fail
     go_meet
     exact (by rw [show pk4 p f = _ from E.out]; exact O.out)
   · have hbb : (bits .and .i64 f 8 != 0) = true := by have := hb; unfold bitA at this; simp [this]
     have E := Lib.hid (aI_on (pk3 p f) (beBytes 1 (if p.ready then 1 else 0)) hb)
     have y := (PA.out _ O.out.kept).c6
     go_wp2_with (first
       | (go_at_call 31; refine (writeReady_any p.ready _ _ q _ O.out (by have := HLS.out; omega)).mono ?_; rintro e wx ⟨rfl, ox⟩))
     go_meet
     exact (by rw [show pk4 p f = _ from E.out]; exact ox)
  have O := Lib.hid hcut
  clear hcut
  go_upto_if 56 with fail
  go_cut [] (fun wx => wOk w2.drew wx q (pk5 p f))
  case first =>
   by_cases hb : bitA f 16 = 0
   · have hbb : (bits .and .i64 f 16 != 0) = false := by have := hb; unfold bitA at this; simp [this]
     have E := Lib.hid (aI_off (pk4 p f) (cb (reqB p.req).length ++ reqB p.req) hb)
     clear hb
     go_wp2_with fail
     go_meet
     exact (by rw [show pk5 p f = _ from E.out]; exact O.out)
   · have hbb : (bits .and .i64 f 16 != 0) = true := by have := hb; unfold bitA at this; simp [this]
     have E := Lib.hid (aI_on (pk4 p f) (cb (reqB p.req).length ++ reqB p.req) hb)
     have y := Lib.hid (PA.out _ O.out.kept).rq
     have hI : Hid ((Tryd.prog.info? 30).map (·.size) = some (rqL p.req (.slice A0 p.req.env.length c0)).length) := Lib.hid (by rw [rqL_len hrn]; exact info_rq)
     go_wp2_with (first
       | (refine wpList_load_mid rfl 30 (.tmp 58) rfl tb 7 rfl (rqL p.req (.slice A0 p.req.env.length c0)) _ y.out Tryd.underlying30 rfl hI.out ?_)
       | (go_at_call 32; refine (writePartReq_any F p.req _ _ _ q _ ⟨hrn, HPD.out.re.keep O.out.kept (by simp)⟩ (HF.out.2.2.2.2.2.2.2.2.1.resolve_left hb) O.out (by have := HLS.out; omega) (by have := reqB_len (HF.out.2.2.2.2.2.2.2.2.1.resolve_left hb) hrn; omega)).mono ?_; rintro e wx ⟨rfl, ox⟩))
     go_meet
     exact (by rw [show pk5 p f = _ from E.out]; rw [← List.append_assoc]; exact ox)
  have O := Lib.hid hcut
  clear hcut
  go_upto_if 63 with fail
  go_cut [] (fun wx => wOk w2.drew wx q (pk6 p f))
  case first =>
   by_cases hb : bitA f 32 = 0
   · have hbb : (bits .and .i64 f 32 != 0) = false := by have := hb; unfold bitA at this; simp [this]
     have E := Lib.hid (aI_off (pk5 p f) (cb (ansB p.ans).length ++ ansB p.ans) hb)
     clear hb
     go_wp2_with fail
     go_meet
     exact (by rw [show pk6 p f = _ from E.out]; exact O.out)
   · have hbb : (bits .and .i64 f 32 != 0) = true := by have := hb; unfold bitA at this; simp [this]
     have E := Lib.hid (aI_on (pk5 p f) (cb (ansB p.ans).length ++ ansB p.ans) hb)
     have y := Lib.hid (PA.out _ O.out.kept).an
     have hI : Hid ((Tryd.prog.info? 32).map (·.size) = some (anL p.ans (.slice A1 p.ans.env.length c1)).length) := Lib.hid (by rw [anL_len han]; exact info_an)
     go_wp2_with (first
       | (refine wpList_load_mid rfl 32 (.tmp 65) rfl tb 44 rfl (anL p.ans (.slice A1 p.ans.env.length c1)) _ y.out Tryd.underlying32 rfl hI.out ?_)
       | (go_at_call 33; refine (writePartAns_any F p.ans _ _ _ q _ ⟨han, HPD.out.ae.keep O.out.kept (by simp)⟩ (HF.out.2.2.2.2.2.2.2.2.2.1.resolve_left hb) O.out (by have := HLS.out; omega) (by have := ansB_len (HF.out.2.2.2.2.2.2.2.2.2.1.resolve_left hb) han; omega)).mono ?_; rintro e wx ⟨rfl, ox⟩))
     go_meet
     exact (by rw [show pk6 p f = _ from E.out]; rw [← List.append_assoc]; exact ox)
  have O := Lib.hid hcut
  clear hcut
  go_upto_if 70 with fail
  go_cut [] (fun wx => wOk w2.drew wx q (pk7 p f))
  case first =>
   by_cases hb : bitA f 64 = 0
   · have hbb : (bits .and .i64 f 64 != 0) = false := by have := hb; unfold bitA at this; simp [this]
     have E := Lib.hid (aI_off (pk6 p f) (cb (cfB p.conf).length ++ cfB p.conf) hb)
     clear hb
     go_wp2_with fail
     go_meet
     exact (by rw [show pk7 p f = _ from E.out]; exact O.out)
   · have hbb : (bits .and .i64 f 64 != 0) = true := by have := hb; unfold bitA at this; simp [this]
     have E := Lib.hid (aI_on (pk6 p f) (cb (cfB p.conf).length ++ cfB p.conf) hb)
     have y0 := (PA.out _ O.out.kept).d0
     have y1 := (PA.out _ O.out.kept).d1
     have y2 := (PA.out _ O.out.kept).d2
     go_wp2_with (first
       | (go_at_call 34; refine (writePartConf_any F p.conf _ _ _ q _ (HPD.out.cc.keep O.out.kept (by simp)) (HF.out.2.2.2.2.2.2.2.2.2.2.1.resolve_left hb) O.out (by have := HLS.out; omega) (by have := cfB_len (HF.out.2.2.2.2.2.2.2.2.2.2.1.resolve_left hb); omega)).mono ?_; rintro e wx ⟨rfl, ox⟩))
     go_meet
     exact (by rw [show pk7 p f = _ from E.out]; rw [← List.append_assoc]; exact ox)
  have O := Lib.hid hcut
  clear hcut
  go_upto_if 77 with fail
  go_cut [] (fun wx => wOk w2.drew wx q (pk8 p f))
  case first =>
   by_cases hb : bitA f 128 = 0
   · have hbb : (bits .and .i64 f 128 != 0) = false := by have := hb; unfold bitA at this; simp [this]
     have E := Lib.hid (aI_off (pk7 p f) (beBytes 1 p.votes.length ++ vtsE p.votes) hb)
     clear hb
     go_wp2_with fail
     go_meet
     exact (by rw [show pk8 p f = _ from E.out]; exact O.out)
   · have hbb : (bits .and .i64 f 128 != 0) = true := by have := hb; unfold bitA at this; simp [this]
     have E := Lib.hid (aI_on (pk7 p f) (beBytes 1 p.votes.length ++ vtsE p.votes) hb)
     have y := (PA.out _ O.out.kept).d3
     go_wp2_with (first
       | (go_at_call 35; refine (writeVotes_any F p.votes _ _ _ q _ HPD.out.vs HF.out.2.2.2.2.2.2.2.2.2.2.2 O.out (by have := HLS.out; omega)).mono ?_; rintro e wx ⟨rfl, ox⟩))
     go_meet
     exact (by rw [show pk8 p f = _ from E.out]; rw [← List.append_assoc]; exact ox)
  have O := Lib.hid hcut
  clear hcut
  go_upto_if 84 with fail
  go_cut [] (fun wx => wOk w2.drew wx q (pk9 p f))
  case first =>
   by_cases hb : bitA f 256 = 0
   · have hbb : (bits .and .i64 f 256 != 0) = false := by have := hb; unfold bitA at this; simp [this]
     have E := Lib.hid (aI_off (pk8 p f) (cb p.bytes.length ++ p.bytes) hb)
     clear hb
     go_wp2_with fail
     go_meet
     exact (by rw [show pk9 p f = _ from E.out]; exact O.out)
   · have hbb : (bits .and .i64 f 256 != 0) = true := by have := hb; unfold bitA at this; simp [this]
     have E := Lib.hid (aI_on (pk8 p f) (cb p.bytes.length ++ p.bytes) hb)
     have y := (PA.out _ O.out.kept).d4
     have HB4 : Hid (seen w2.drew A4 g4 p.bytes) := Lib.hid (HS4.out.keep KD.out (by simp))
     go_wp2_with (first
       | (go_at_call 36; refine (O.out.text A4 g4 _ c4 p.bytes rfl HB4.out (by have := HLS.out; omega) (by have := HF.out.2.2.2.2.2.2.2.1; omega)).mono ?_; rintro e wx ⟨rfl, ox⟩))
     go_meet
     exact (by rw [show pk9 p f = _ from E.out]; rw [← List.append_assoc]; exact ox)
  have O := Lib.hid hcut
  clear hcut
  have HE := Lib.hid (show pkB p = pk9 p f by unfold pkB; rw [HFF.out])
  have hll : (pk9 p f).length ≤ 1000000000 := by have := HLS.out; omega
  have HLL := Lib.hid hll
  clear hll
  go_wp2_with (first
    | (go_at_call 37; refine (O.out.bytes HLL.out).mono ?_; rintro e vz ⟨u, G, rfl, ub, un, uk⟩; have OZ := Lib.hid (And.intro ub (And.intro un uk)); clear ub un uk))
  go_ret2
  exact ⟨_, G, rfl, by rw [HE.out]; exact OZ.out.1, fun y hy => ⟨by have h1 := (OZ.out.2.1 y hy).1; have h2 := KD.out.size; omega, (OZ.out.2.1 y hy).2⟩, KD.out.then OZ.out.2.2 (by simp)⟩
end Go.Proofs.YthfdkonhjpdflaaDoor
