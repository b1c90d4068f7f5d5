/-
  GWA: GW1, GW2, GW3, GW4, joined.
-/
import Derived.Test.YthfdkonhjpdflaaGreatDoorPkD
import Derived.Test.YthfdkonhjpdflaaGreatDoorRWide
import Derived.Test.YthfdkonhjpdflaaGreatDoorPk21
import Derived.Test.YthfdkonhjpdflaaGreatDoorRC5
import Derived.Test.YthfdkonhjpdflaaGreatDoorPkE
import Derived.Test.YthfdkonhjpdflaaGreatDoorRC6
import Derived.Test.YthfdkonhjpdflaaGreatDoorRC15
import Derived.Test.YthfdkonhjpdflaaGreatDoorPk36
section
namespace Go.Proofs.YthfdkonhjpdflaaGreatDoor
open Go.RowKit
set_option linter.unusedVariables false
set_option maxRecDepth 100000
set_option linter.unusedSimpArgs false

/-- a writer that was made since w0, and has met no error; nothing that was there in w0 has changed -/
def wOk2 (w0 w : World) (p : Nat) (l : List UInt8) : Prop :=
  ∃ v, isWr2 w p v ⟨l, 0⟩ ∧ w0.heap.size ≤ p ∧ (∀ x ∈ homes v, w0.heap.size ≤ x) ∧ keepBut [] w0 w
theorem wOk2.kept {w0 w : World} {p : Nat} {l : List UInt8} (h : wOk2 w0 w p l) : keepBut [] w0 w := by obtain ⟨v, _, _, _, h⟩ := h; exact h
theorem wOk2.lt {w0 w : World} {p : Nat} {l : List UInt8} (h : wOk2 w0 w p l) : p < w.heap.size := by obtain ⟨v, h, _⟩ := h; exact h.1.lt
theorem wOk2.over {w0 w w' : World} {p : Nat} {l : List UInt8} (h : wOk2 w0 w p l) (hk : keepBut [] w w') : wOk2 w0 w' p l := by
  obtain ⟨v, h1, h2, h3, h4⟩ := h
  exact ⟨v, h1.keep hk (by simp) (by simp), h2, h3, h4.then hk (by simp)⟩
theorem wOk2.step {w0 w w' : World} {p : Nat} {l m : List UInt8} {v : Value} {e : Ending} (h : isWr2 w p v ⟨l, 0⟩) (h1 : w0.heap.size ≤ p) (h2 : ∀ x ∈ homes v, w0.heap.size ≤ x) (h3 : keepBut [] w0 w) (hp : wrPost2 p v ⟨m, 0⟩ w e w') :
    e = .returned (.pointer (some ⟨p, 0, none⟩)) ∧ wOk2 w0 w' p m := by
  obtain ⟨he, v', hw, hk, hh⟩ := hp
  refine ⟨he, v', hw, h1, fun x hx => ?_, h3.then hk (fun x hx => .inr ?_)⟩
  · rcases hh x hx with q | q
    · exact h2 x q
    · have := h3.size; omega
  · rcases List.mem_cons.1 hx with rfl | hx
    · exact h1
    · exact h2 x hx
def onPost2 (w0 : World) (p : Nat) (l : List UInt8) (e : Ending) (w' : World) : Prop := e = .returned (.pointer (some ⟨p, 0, none⟩)) ∧ wOk2 w0 w' p l
theorem wOk2.start {w0 : World} : Calls Tryz.prog 51 #[] w0 fun e w' => ∃ p, e = .returned (.pointer (some ⟨p, 0, none⟩)) ∧ wOk2 w0 w' p [] :=
  (write_any2 w0).mono fun e w' ⟨p, he, h1, h2, h3⟩ => ⟨p, he, _, h1, h2, by simp [homes_none], h3⟩
theorem wOk2.num {w0 w : World} {p : Nat} {l : List UInt8} (h : wOk2 w0 w p l) (n : Int) (h0 : 0 ≤ n) (h1 : n < 256) (hb : l.length ≤ 1000000000) :
    Calls Tryz.prog 52 #[.pointer (some ⟨p, 0, none⟩), .int .i64 1, .int .i64 n] w (onPost2 w0 p (l ++ beBytes 1 n.toNat)) := by
  obtain ⟨v, a, b, c, d⟩ := h
  refine (wnum_any2 p v _ 1 n w a hb).mono fun e w' hp => ?_
  rw [ws_num1 l h0 h1] at hp
  exact wOk2.step a b c d hp
theorem wOk2.count {w0 w : World} {p : Nat} {l : List UInt8} (h : wOk2 w0 w p l) (n : Int) (h0 : 0 ≤ n) (h1 : n ≤ 9007199254740991) (hb : l.length ≤ 1000000000) :
    Calls Tryz.prog 54 #[.pointer (some ⟨p, 0, none⟩), .int .i64 n] w (onPost2 w0 p (l ++ cb n.toNat)) := by
  obtain ⟨v, a, b, c, d⟩ := h
  refine (wcount_any2 p v _ n w a hb).mono fun e w' hp => ?_
  rw [ws_count l h0 h1] at hp
  exact wOk2.step a b c d hp
theorem wOk2.raw {w0 w : World} {p : Nat} {l : List UInt8} (h : wOk2 w0 w p l) (A : Option Addr) (g n c : Nat) (t : List UInt8) (hn : t.length = n) (hs : seen w A g t) (hb : l.length ≤ 1000000000) (hb2 : t.length ≤ 1000000000) :
    Calls Tryz.prog 81 #[.pointer (some ⟨p, 0, none⟩), .slice A n c] w (onPost2 w0 p (l ++ t)) := by
  subst hn
  obtain ⟨v, a, b, d, k⟩ := h
  refine (wraw_any2 p v _ A g c t w a hs (show l.length + t.length ≤ _ by omega)).mono fun e w' hp => ?_
  rw [ws_raw] at hp
  exact wOk2.step a b d k hp
/-- a string out of memory that was there before the writer -/
theorem wOk2.text {w0 w : World} {p : Nat} {l : List UInt8} (h : wOk2 w0 w p l) (A : Option Addr) (g n c : Nat) (t : List UInt8) (hn : t.length = n) (hs : seen w0 A g t) (hb : l.length ≤ 1000000000) (hb2 : t.length ≤ 1000000000) :
    Calls Tryz.prog 58 #[.pointer (some ⟨p, 0, none⟩), .slice A n c] w (onPost2 w0 p ((l ++ cb t.length) ++ t)) := by
  subst hn
  obtain ⟨v, a, b, d, k⟩ := h
  have hg : t ≠ [] → g < w0.heap.size := fun hne => by obtain ⟨o, _, h2, _⟩ := hs hne; exact h2
  refine (wtext_any2 p v _ A g c t w a (hs.keep k (by simp)) (fun hne => ⟨fun e => by have := hg hne; omega, fun hm => by have := hg hne; have := d g hm; omega⟩) hb hb2).mono fun e w' hp => ?_
  rw [ws_text l t hb2] at hp
  exact wOk2.step a b d k hp
/-- a string out of memory that came behind the writer -/
theorem wOk2.textNew {w0 wb w : World} {p : Nat} {l : List UInt8} (h : wOk2 w0 wb p l) (hk : keepBut [] wb w) (A : Option Addr) (g n c : Nat) (t : List UInt8) (hn : t.length = n) (hs : seen w A g t) (hg : t ≠ [] → wb.heap.size ≤ g) (hb : l.length ≤ 1000000000) (hb2 : t.length ≤ 1000000000) :
    Calls Tryz.prog 58 #[.pointer (some ⟨p, 0, none⟩), .slice A n c] w (onPost2 w0 p ((l ++ cb t.length) ++ t)) := by
  subst hn
  obtain ⟨v, a, b, d, k⟩ := h
  have hp1 := a.1.lt
  have hp2 := a.2.lt
  refine (wtext_any2 p v _ A g c t w (a.keep hk (by simp) (by simp)) hs (fun hne => ⟨fun e => by have := hg hne; omega, fun hm => by have := hg hne; have := hp2 g hm; omega⟩) hb hb2).mono fun e w' hp => ?_
  rw [ws_text l t hb2] at hp
  exact wOk2.step (a.keep hk (by simp) (by simp)) b d (k.then hk (by simp)) hp
theorem wOk2.bytes {w0 w : World} {p : Nat} {l : List UInt8} (h : wOk2 w0 w p l) (hb : l.length ≤ 1000000000) :
    Calls Tryz.prog 60 #[.pointer (some ⟨p, 0, none⟩)] w (outPost w0 l) := by
  obtain ⟨v, a, b, d, k⟩ := h
  refine (wbytes_any2 p v _ w a (show l.length ≤ _ by omega)).mono fun e w' hp => ?_
  obtain ⟨v', he, h1, h2, h3⟩ := hp
  have hl : (WS.mk l 0).bytes = l := by simp [WS.bytes]
  rw [hl] at h1
  obtain ⟨A3, c3, e3, h31, h32, h33, h34⟩ := h1.form
  subst e3
  obtain ⟨g3, hg3⟩ := homes_one (.slice A3 l.length c3)
  have hks := k.size
  refine ⟨_, homes (.slice A3 l.length c3), he, ⟨A3, c3, g3, rfl, h31, h32, reads.seenB (h34 g3 hg3), fun hne => ?_⟩, fun y hy => ⟨by have := h2 y hy; omega, h33 y hy⟩, k.then h3 (by simp)⟩
  obtain ⟨o, hA, _⟩ := (h34 g3 hg3).2 (List.length_pos_iff.2 hne)
  rw [hA]; simp [homes_some]
end Go.Proofs.YthfdkonhjpdflaaGreatDoor
end

section
namespace Go.Proofs.YthfdkonhjpdflaaGreatDoor
open Go.RowKit
set_option linter.unusedVariables false
set_option maxRecDepth 100000
set_option linter.unusedSimpArgs false

set_option maxHeartbeats 4000000 in
theorem bytesReqD_no (F : List Nat) (r : RQ) (ev : Value) (w : World) (h : rqV w F r ev) (hok : r.ok = false) :
    Calls Tryz.prog 15 #[.agg (rqL r ev).toArray] w fun e w' => e = .returned (.tuple #[.slice none 0 0, .int .i64 2]) ∧ keepBut [] w w' := by
  have hsz : (rqL r ev).length = 37 := rqL_len h.1
  have k1 := (keepBut.refl [] w).alloc (.cells (rqL r ev).toArray 26)
  have r1 := rowAt.new w 26 (rqL r ev).toArray
  obtain ⟨w1, hw1⟩ : ∃ w1, w.alloc (.cells (rqL r ev).toArray 26) = w1 := ⟨_, rfl⟩
  rw [hw1] at k1 r1
  have h1 : rqV w1 F r ev := ⟨h.1, h.2.keep k1 (by simp)⟩
  have hI : (Tryz.prog.info? 26).map (·.size) = some (rqL r ev).length := by rw [hsz]; exact info_rq
  have HS := Lib.hid (And.intro r1.rangeAll (And.intro hI (And.intro k1 h1)))
  have HW := Lib.hid hw1
  clear hsz k1 r1 hw1 h1 hI h
  go_enter Tryz.func15, Tryz.ntmps15
  go_upto_region 1 with (with_reducible refine wpList_box_agg _ rfl 26 (.tmp 0) rfl _ rfl ?_)
  rw [HW.out]
  go_upto_region 2 with (first
    | (refine wpList_load_mid rfl 26 (.tmp 1) rfl w.heap.size 0 rfl (rqL r ev) _ HS.out.1 Tryz.underlying26 rfl HS.out.2.1 ?_)
    | (go_at_call 80; refine (checkReqD F r ev _ HS.out.2.2.2).mono ?_; rintro e w2 ⟨rfl, kk⟩; rw [hok]; have K2 := Lib.hid (HS.out.2.2.1.then kk (by simp)); clear kk))
  go_wp2_with fail
  go_ret2
  exact ⟨rfl, K2.out⟩
set_option maxHeartbeats 8000000 in
theorem bytesReqD_any (F : List Nat) (r : RQ) (ev : Value) (w : World) (h : rqV w F r ev) (hok : r.ok = true) :
    Calls Tryz.prog 15 #[.agg (rqL r ev).toArray] w (outPost w (reqB r)) := by
  have hsz : (rqL r ev).length = 37 := rqL_len h.1
  have hf := r.ok_facts hok
  have hnl := h.1
  have k1 := (keepBut.refl [] w).alloc (.cells (rqL r ev).toArray 26)
  have r1 := rowAt.new w 26 (rqL r ev).toArray
  obtain ⟨w1, hw1⟩ : ∃ w1, w.alloc (.cells (rqL r ev).toArray 26) = w1 := ⟨_, rfl⟩
  rw [hw1] at k1 r1
  have h1 : rqV w1 F r ev := ⟨h.1, h.2.keep k1 (by simp)⟩
  have hI : (Tryz.prog.info? 26).map (·.size) = some (rqL r ev).length := by rw [hsz]; exact info_rq
  have HS := Lib.hid (And.intro r1.rangeAll (And.intro hI (And.intro k1 h1)))
  have HW := Lib.hid hw1
  have HR1 := Lib.hid r1
  clear hsz k1 r1 hw1 h1 hI
  obtain ⟨_, A, c, g, rfl, _, _, hsn, _⟩ := h
  have HF := Lib.hid hf
  have HN := Lib.hid hnl
  have HSN := Lib.hid hsn
  clear hf hnl hsn
  go_enter Tryz.func15, Tryz.ntmps15
  go_upto_region 1 with (with_reducible refine wpList_box_agg _ rfl 26 (.tmp 0) rfl _ rfl ?_)
  rw [HW.out]
  go_upto_region 2 with (first
    | (refine wpList_load_mid rfl 26 (.tmp 1) rfl w.heap.size 0 rfl (rqL r _) _ HS.out.1 Tryz.underlying26 rfl HS.out.2.1 ?_)
    | (go_at_call 80; refine (checkReqD F r _ _ HS.out.2.2.2).mono ?_; rintro e w2 ⟨rfl, kk⟩; rw [hok]; have r2 := kk.row HR1.out (by simp); have K2 := Lib.hid (HS.out.2.2.1.then kk (by simp)); clear kk))
  obtain ⟨tb, htb⟩ : ∃ tb, w.heap.size = tb := ⟨_, rfl⟩
  have hsn2 : seen w2 A g r.env := HSN.out.keep K2.out (by simp)
  have hsnn : seen w2.drew (some ⟨tb, 4, none⟩) tb r.name := fun hne => ⟨4, rfl, by rw [← htb]; exact r2.lt, fun j b hb => by
    refine (r2.cell' htb (4 + j)).trans ?_
    exact rqL_name r _ j (bv b) (by unfold nameL; rw [List.getElem?_map, hb]; rfl)⟩
  rw [htb] at r2 ⊢
  have z0 : w2.drew.cell? ⟨tb, 0, none⟩ = some (.int .i64 r.client) := r2.cell 0
  have z1 : w2.drew.cell? ⟨tb, 1, none⟩ = some (.int .i64 r.num) := r2.cell 1
  have z2 : w2.drew.cell? ⟨tb, 2, none⟩ = some (.int .i64 r.kind) := r2.cell 2
  have z3 : w2.drew.cell? ⟨tb, 3, none⟩ = some (.int .i64 r.version) := r2.cell 3
  have ze : w2.drew.cell? ⟨tb, 36, none⟩ = some (.slice A r.env.length c) := (r2.cell 36).trans (rqL_env HN.out)
  have Z : Hid (∀ w', keepBut [] w2.drew w' → (w'.cell? ⟨tb, 0, none⟩ = some (.int .i64 r.client) ∧ w'.cell? ⟨tb, 1, none⟩ = some (.int .i64 r.num) ∧ w'.cell? ⟨tb, 2, none⟩ = some (.int .i64 r.kind) ∧ w'.cell? ⟨tb, 3, none⟩ = some (.int .i64 r.version) ∧ w'.cell? ⟨tb, 36, none⟩ = some (.slice A r.env.length c))) := Lib.hid (fun w' k => ⟨(k.cell (p := ⟨tb, 0, none⟩) r2.lt (by simp)).trans z0, (k.cell (p := ⟨tb, 1, none⟩) r2.lt (by simp)).trans z1, (k.cell (p := ⟨tb, 2, none⟩) r2.lt (by simp)).trans z2, (k.cell (p := ⟨tb, 3, none⟩) r2.lt (by simp)).trans z3, (k.cell (p := ⟨tb, 36, none⟩) r2.lt (by simp)).trans ze⟩)
  have Z0 := Z.out _ (keepBut.refl [] w2.drew)
  have HSE := Lib.hid (And.intro (show seen w2.drew A g r.env from hsn2) hsnn)
  have KD := Lib.hid (K2.out.then ((keepBut.refl [] w2).drew) (by simp))
  clear hsn2 hsnn r2 z0 z1 z2 z3 ze
  have HC := Lib.hid (And.intro (cb8 (n := r.num) (by have := HF.out; omega)) (And.intro (cb8 (n := r.version) (by have := HF.out; omega)) (cb8 (n := (r.env.length : Int)) (by have := HF.out; omega))))
  have HL1 : Hid (([] : List UInt8).length ≤ 1000000000) := Lib.hid (by have h1 := HC.out; have h2 := HF.out; have h3 := HN.out; simp only [List.length_append, be1, List.length_nil, Int.toNat_natCast] at h1 ⊢; omega)
  have HL2 : Hid ((([] : List UInt8) ++ beBytes 1 r.client.toNat).length ≤ 1000000000) := Lib.hid (by have h1 := HC.out; have h2 := HF.out; have h3 := HN.out; simp only [List.length_append, be1, List.length_nil, Int.toNat_natCast] at h1 ⊢; omega)
  have HL3 : Hid (((([] : List UInt8) ++ beBytes 1 r.client.toNat) ++ cb r.num.toNat).length ≤ 1000000000) := Lib.hid (by have h1 := HC.out; have h2 := HF.out; have h3 := HN.out; simp only [List.length_append, be1, List.length_nil, Int.toNat_natCast] at h1 ⊢; omega)
  have HL4 : Hid ((((([] : List UInt8) ++ beBytes 1 r.client.toNat) ++ cb r.num.toNat) ++ beBytes 1 r.kind.toNat).length ≤ 1000000000) := Lib.hid (by have h1 := HC.out; have h2 := HF.out; have h3 := HN.out; simp only [List.length_append, be1, List.length_nil, Int.toNat_natCast] at h1 ⊢; omega)
  have HL5 : Hid (((((([] : List UInt8) ++ beBytes 1 r.client.toNat) ++ cb r.num.toNat) ++ beBytes 1 r.kind.toNat) ++ cb r.version.toNat).length ≤ 1000000000) := Lib.hid (by have h1 := HC.out; have h2 := HF.out; have h3 := HN.out; simp only [List.length_append, be1, List.length_nil, Int.toNat_natCast] at h1 ⊢; omega)
  have HL6 : Hid ((((((([] : List UInt8) ++ beBytes 1 r.client.toNat) ++ cb r.num.toNat) ++ beBytes 1 r.kind.toNat) ++ cb r.version.toNat) ++ r.name).length ≤ 1000000000) := Lib.hid (by have h1 := HC.out; have h2 := HF.out; have h3 := HN.out; simp only [List.length_append, be1, List.length_nil, Int.toNat_natCast] at h1 ⊢; omega)
  have HL7 : Hid ((((((((([] : List UInt8) ++ beBytes 1 r.client.toNat) ++ cb r.num.toNat) ++ beBytes 1 r.kind.toNat) ++ cb r.version.toNat) ++ r.name) ++ cb r.env.length) ++ r.env).length ≤ 1000000000) := Lib.hid (by have h1 := HC.out; have h2 := HF.out; have h3 := HN.out; simp only [List.length_append, be1, List.length_nil, Int.toNat_natCast] at h1 ⊢; omega)
  go_upto_region 4 with fail
  go_region_held3 (fun w' => w'.cell? ⟨tb, 0, none⟩ = some (.int .i64 r.client) ∧ w'.cell? ⟨tb, 1, none⟩ = some (.int .i64 r.num) ∧ w'.cell? ⟨tb, 2, none⟩ = some (.int .i64 r.kind) ∧ w'.cell? ⟨tb, 3, none⟩ = some (.int .i64 r.version) ∧ w'.cell? ⟨tb, 36, none⟩ = some (.slice A r.env.length c)) (first | exact Z0 | exact Y0 | exact Y1 | exact Y2 | exact Y3 | exact Y4 | exact Y5 | exact Y6 | exact YZ)
    (first
      | (go_at_call 51; refine wOk2.start.mono ?_; rintro e v0 ⟨p, rfl, o0⟩; have O0 := Lib.hid o0; have Y0 := Z.out _ o0.kept; clear o0)
      | (go_at_call 52; (with_reducible refine (O0.out.num r.client (by have := HF.out; omega) (by have := HF.out; omega) HL1.out).mono ?_); rintro e v1 ⟨rfl, o1⟩; have O1 := Lib.hid o1; have Y1 := Z.out _ o1.kept; clear o1)
      | (go_at_call 54; (with_reducible refine (O1.out.count r.num (by have := HF.out; omega) (by have := HF.out; omega) HL2.out).mono ?_); rintro e v2 ⟨rfl, o2⟩; have O2 := Lib.hid o2; have Y2 := Z.out _ o2.kept; clear o2)
      | (go_at_call 52; (with_reducible refine (O2.out.num r.kind (by have := HF.out; omega) (by have := HF.out; omega) HL3.out).mono ?_); rintro e v3 ⟨rfl, o3⟩; have O3 := Lib.hid o3; have Y3 := Z.out _ o3.kept; clear o3)
      | (go_at_call 54; (with_reducible refine (O3.out.count r.version (by have := HF.out; omega) (by have := HF.out; omega) HL4.out).mono ?_); rintro e v4 ⟨rfl, o4⟩; have O4 := Lib.hid o4; have Y4 := Z.out _ o4.kept; clear o4)
      | (go_at_call 81; (with_reducible refine (O4.out.raw _ tb 32 32 r.name HN.out (HSE.out.2.keep O4.out.kept (by simp)) HL5.out (by rw [HN.out]; omega)).mono ?_); rintro e v5 ⟨rfl, o5⟩; have O5 := Lib.hid o5; have Y5 := Z.out _ o5.kept; clear o5)
      | (go_at_call 58; (with_reducible refine (O5.out.text A g r.env.length c r.env rfl HSE.out.1 HL6.out (by have := HF.out; omega)).mono ?_); rintro e v6 ⟨rfl, o6⟩; have O6 := Lib.hid o6; have Y6 := Z.out _ o6.kept; clear o6)
      | (go_at_call 60; (with_reducible refine (O6.out.bytes HL7.out).mono ?_); rintro e vz ⟨u, G, rfl, ub, un, uk⟩; have OZ := Lib.hid (And.intro ub (And.intro un uk)); have YZ := Z.out _ uk; clear ub un uk))
  go_wp2_with fail
  go_ret2
  exact ⟨_, G, rfl, OZ.out.1, fun y hy => ⟨by have h1 := (OZ.out.2.1 y hy).1; have h2 := KD.out.size; omega, (OZ.out.2.1 y hy).2⟩, KD.out.then OZ.out.2.2 (by simp)⟩
set_option maxHeartbeats 4000000 in
theorem bytesAnsD_no (F : List Nat) (r : AN) (ev : Value) (w : World) (h : anV w F r ev) (hok : r.ok = false) :
    Calls Tryz.prog 17 #[.agg (anL r ev).toArray] w fun e w' => e = .returned (.tuple #[.slice none 0 0, .int .i64 2]) ∧ keepBut [] w w' := by
  have hsz : (anL r ev).length = 38 := anL_len h.1
  have k1 := (keepBut.refl [] w).alloc (.cells (anL r ev).toArray 28)
  have r1 := rowAt.new w 28 (anL r ev).toArray
  obtain ⟨w1, hw1⟩ : ∃ w1, w.alloc (.cells (anL r ev).toArray 28) = w1 := ⟨_, rfl⟩
  rw [hw1] at k1 r1
  have h1 : anV w1 F r ev := ⟨h.1, h.2.keep k1 (by simp)⟩
  have hI : (Tryz.prog.info? 28).map (·.size) = some (anL r ev).length := by rw [hsz]; exact info_an
  have HS := Lib.hid (And.intro r1.rangeAll (And.intro hI (And.intro k1 h1)))
  have HW := Lib.hid hw1
  clear hsz k1 r1 hw1 h1 hI h
  go_enter Tryz.func17, Tryz.ntmps17
  go_upto_region 1 with (with_reducible refine wpList_box_agg _ rfl 28 (.tmp 0) rfl _ rfl ?_)
  rw [HW.out]
  go_upto_region 2 with (first
    | (refine wpList_load_mid rfl 28 (.tmp 1) rfl w.heap.size 0 rfl (anL r ev) _ HS.out.1 Tryz.underlying28 rfl HS.out.2.1 ?_)
    | (go_at_call 82; refine (checkAnsD F r ev _ HS.out.2.2.2).mono ?_; rintro e w2 ⟨rfl, kk⟩; rw [hok]; have K2 := Lib.hid (HS.out.2.2.1.then kk (by simp)); clear kk))
  go_wp2_with fail
  go_ret2
  exact ⟨rfl, K2.out⟩
set_option maxHeartbeats 8000000 in
theorem bytesAnsD_any (F : List Nat) (r : AN) (ev : Value) (w : World) (h : anV w F r ev) (hok : r.ok = true) :
    Calls Tryz.prog 17 #[.agg (anL r ev).toArray] w (outPost w (ansB r)) := by
  have hsz : (anL r ev).length = 38 := anL_len h.1
  have hf := r.ok_facts hok
  have hnl := h.1
  have k1 := (keepBut.refl [] w).alloc (.cells (anL r ev).toArray 28)
  have r1 := rowAt.new w 28 (anL r ev).toArray
  obtain ⟨w1, hw1⟩ : ∃ w1, w.alloc (.cells (anL r ev).toArray 28) = w1 := ⟨_, rfl⟩
  rw [hw1] at k1 r1
  have h1 : anV w1 F r ev := ⟨h.1, h.2.keep k1 (by simp)⟩
  have hI : (Tryz.prog.info? 28).map (·.size) = some (anL r ev).length := by rw [hsz]; exact info_an
  have HS := Lib.hid (And.intro r1.rangeAll (And.intro hI (And.intro k1 h1)))
  have HW := Lib.hid hw1
  have HR1 := Lib.hid r1
  clear hsz k1 r1 hw1 h1 hI
  obtain ⟨_, A, c, g, rfl, _, _, hsn, _⟩ := h
  have HF := Lib.hid hf
  have HN := Lib.hid hnl
  have HSN := Lib.hid hsn
  clear hf hnl hsn
  go_enter Tryz.func17, Tryz.ntmps17
  go_upto_region 1 with (with_reducible refine wpList_box_agg _ rfl 28 (.tmp 0) rfl _ rfl ?_)
  rw [HW.out]
  go_upto_region 2 with (first
    | (refine wpList_load_mid rfl 28 (.tmp 1) rfl w.heap.size 0 rfl (anL r _) _ HS.out.1 Tryz.underlying28 rfl HS.out.2.1 ?_)
    | (go_at_call 82; refine (checkAnsD F r _ _ HS.out.2.2.2).mono ?_; rintro e w2 ⟨rfl, kk⟩; rw [hok]; have r2 := kk.row HR1.out (by simp); have K2 := Lib.hid (HS.out.2.2.1.then kk (by simp)); clear kk))
  obtain ⟨tb, htb⟩ : ∃ tb, w.heap.size = tb := ⟨_, rfl⟩
  have hsn2 : seen w2 A g r.env := HSN.out.keep K2.out (by simp)
  have hsnn : seen w2.drew (some ⟨tb, 5, none⟩) tb r.name := fun hne => ⟨5, rfl, by rw [← htb]; exact r2.lt, fun j b hb => by
    refine (r2.cell' htb (5 + j)).trans ?_
    exact anL_name r _ j (bv b) (by unfold nameL; rw [List.getElem?_map, hb]; rfl)⟩
  rw [htb] at r2 ⊢
  have z0 : w2.drew.cell? ⟨tb, 0, none⟩ = some (.int .i64 r.client) := r2.cell 0
  have z1 : w2.drew.cell? ⟨tb, 1, none⟩ = some (.int .i64 r.num) := r2.cell 1
  have z2 : w2.drew.cell? ⟨tb, 2, none⟩ = some (.int .i64 r.code) := r2.cell 2
  have z3 : w2.drew.cell? ⟨tb, 3, none⟩ = some (.int .i64 r.version) := r2.cell 3
  have z4 : w2.drew.cell? ⟨tb, 4, none⟩ = some (.int .i64 r.epoch) := r2.cell 4
  have ze : w2.drew.cell? ⟨tb, 37, none⟩ = some (.slice A r.env.length c) := (r2.cell 37).trans (anL_env HN.out)
  have Z : Hid (∀ w', keepBut [] w2.drew w' → (w'.cell? ⟨tb, 0, none⟩ = some (.int .i64 r.client) ∧ w'.cell? ⟨tb, 1, none⟩ = some (.int .i64 r.num) ∧ w'.cell? ⟨tb, 2, none⟩ = some (.int .i64 r.code) ∧ w'.cell? ⟨tb, 3, none⟩ = some (.int .i64 r.version) ∧ w'.cell? ⟨tb, 4, none⟩ = some (.int .i64 r.epoch) ∧ w'.cell? ⟨tb, 37, none⟩ = some (.slice A r.env.length c))) := Lib.hid (fun w' k => ⟨(k.cell (p := ⟨tb, 0, none⟩) r2.lt (by simp)).trans z0, (k.cell (p := ⟨tb, 1, none⟩) r2.lt (by simp)).trans z1, (k.cell (p := ⟨tb, 2, none⟩) r2.lt (by simp)).trans z2, (k.cell (p := ⟨tb, 3, none⟩) r2.lt (by simp)).trans z3, (k.cell (p := ⟨tb, 4, none⟩) r2.lt (by simp)).trans z4, (k.cell (p := ⟨tb, 37, none⟩) r2.lt (by simp)).trans ze⟩)
  have Z0 := Z.out _ (keepBut.refl [] w2.drew)
  have HSE := Lib.hid (And.intro (show seen w2.drew A g r.env from hsn2) hsnn)
  have KD := Lib.hid (K2.out.then ((keepBut.refl [] w2).drew) (by simp))
  clear hsn2 hsnn r2 z0 z1 z2 z3 z4 ze
  have HC := Lib.hid (And.intro (cb8 (n := r.num) (by have := HF.out; omega)) (And.intro (cb8 (n := r.version) (by have := HF.out; omega)) (cb8 (n := (r.env.length : Int)) (by have := HF.out; omega))))
  have HL1 : Hid (([] : List UInt8).length ≤ 1000000000) := Lib.hid (by have h1 := HC.out; have h2 := HF.out; have h3 := HN.out; simp only [List.length_append, be1, List.length_nil, Int.toNat_natCast] at h1 ⊢; omega)
  have HL2 : Hid ((([] : List UInt8) ++ beBytes 1 r.client.toNat).length ≤ 1000000000) := Lib.hid (by have h1 := HC.out; have h2 := HF.out; have h3 := HN.out; simp only [List.length_append, be1, List.length_nil, Int.toNat_natCast] at h1 ⊢; omega)
  have HL3 : Hid (((([] : List UInt8) ++ beBytes 1 r.client.toNat) ++ cb r.num.toNat).length ≤ 1000000000) := Lib.hid (by have h1 := HC.out; have h2 := HF.out; have h3 := HN.out; simp only [List.length_append, be1, List.length_nil, Int.toNat_natCast] at h1 ⊢; omega)
  have HL4 : Hid ((((([] : List UInt8) ++ beBytes 1 r.client.toNat) ++ cb r.num.toNat) ++ beBytes 1 r.code.toNat).length ≤ 1000000000) := Lib.hid (by have h1 := HC.out; have h2 := HF.out; have h3 := HN.out; simp only [List.length_append, be1, List.length_nil, Int.toNat_natCast] at h1 ⊢; omega)
  have HL5 : Hid (((((([] : List UInt8) ++ beBytes 1 r.client.toNat) ++ cb r.num.toNat) ++ beBytes 1 r.code.toNat) ++ cb r.version.toNat).length ≤ 1000000000) := Lib.hid (by have h1 := HC.out; have h2 := HF.out; have h3 := HN.out; simp only [List.length_append, be1, List.length_nil, Int.toNat_natCast] at h1 ⊢; omega)
  have HL6 : Hid ((((((([] : List UInt8) ++ beBytes 1 r.client.toNat) ++ cb r.num.toNat) ++ beBytes 1 r.code.toNat) ++ cb r.version.toNat) ++ beBytes 1 r.epoch.toNat).length ≤ 1000000000) := Lib.hid (by have h1 := HC.out; have h2 := HF.out; have h3 := HN.out; simp only [List.length_append, be1, List.length_nil, Int.toNat_natCast] at h1 ⊢; omega)
  have HL7 : Hid (((((((([] : List UInt8) ++ beBytes 1 r.client.toNat) ++ cb r.num.toNat) ++ beBytes 1 r.code.toNat) ++ cb r.version.toNat) ++ beBytes 1 r.epoch.toNat) ++ r.name).length ≤ 1000000000) := Lib.hid (by have h1 := HC.out; have h2 := HF.out; have h3 := HN.out; simp only [List.length_append, be1, List.length_nil, Int.toNat_natCast] at h1 ⊢; omega)
  have HL8 : Hid (((((((((([] : List UInt8) ++ beBytes 1 r.client.toNat) ++ cb r.num.toNat) ++ beBytes 1 r.code.toNat) ++ cb r.version.toNat) ++ beBytes 1 r.epoch.toNat) ++ r.name) ++ cb r.env.length) ++ r.env).length ≤ 1000000000) := Lib.hid (by have h1 := HC.out; have h2 := HF.out; have h3 := HN.out; simp only [List.length_append, be1, List.length_nil, Int.toNat_natCast] at h1 ⊢; omega)
  go_upto_region 4 with fail
  go_region_held3 (fun w' => w'.cell? ⟨tb, 0, none⟩ = some (.int .i64 r.client) ∧ w'.cell? ⟨tb, 1, none⟩ = some (.int .i64 r.num) ∧ w'.cell? ⟨tb, 2, none⟩ = some (.int .i64 r.code) ∧ w'.cell? ⟨tb, 3, none⟩ = some (.int .i64 r.version) ∧ w'.cell? ⟨tb, 4, none⟩ = some (.int .i64 r.epoch) ∧ w'.cell? ⟨tb, 37, none⟩ = some (.slice A r.env.length c)) (first | exact Z0 | exact Y0 | exact Y1 | exact Y2 | exact Y3 | exact Y4 | exact Y5 | exact Y6 | exact Y7 | exact YZ)
    (first
      | (go_at_call 51; refine wOk2.start.mono ?_; rintro e v0 ⟨p, rfl, o0⟩; have O0 := Lib.hid o0; have Y0 := Z.out _ o0.kept; clear o0)
      | (go_at_call 52; (with_reducible refine (O0.out.num r.client (by have := HF.out; omega) (by have := HF.out; omega) HL1.out).mono ?_); rintro e v1 ⟨rfl, o1⟩; have O1 := Lib.hid o1; have Y1 := Z.out _ o1.kept; clear o1)
      | (go_at_call 54; (with_reducible refine (O1.out.count r.num (by have := HF.out; omega) (by have := HF.out; omega) HL2.out).mono ?_); rintro e v2 ⟨rfl, o2⟩; have O2 := Lib.hid o2; have Y2 := Z.out _ o2.kept; clear o2)
      | (go_at_call 52; (with_reducible refine (O2.out.num r.code (by have := HF.out; omega) (by have := HF.out; omega) HL3.out).mono ?_); rintro e v3 ⟨rfl, o3⟩; have O3 := Lib.hid o3; have Y3 := Z.out _ o3.kept; clear o3)
      | (go_at_call 54; (with_reducible refine (O3.out.count r.version (by have := HF.out; omega) (by have := HF.out; omega) HL4.out).mono ?_); rintro e v4 ⟨rfl, o4⟩; have O4 := Lib.hid o4; have Y4 := Z.out _ o4.kept; clear o4)
      | (go_at_call 52; (with_reducible refine (O4.out.num r.epoch (by have := HF.out; omega) (by have := HF.out; omega) HL5.out).mono ?_); rintro e v5 ⟨rfl, o5⟩; have O5 := Lib.hid o5; have Y5 := Z.out _ o5.kept; clear o5)
      | (go_at_call 81; (with_reducible refine (O5.out.raw _ tb 32 32 r.name HN.out (HSE.out.2.keep O5.out.kept (by simp)) HL6.out (by rw [HN.out]; omega)).mono ?_); rintro e v6 ⟨rfl, o6⟩; have O6 := Lib.hid o6; have Y6 := Z.out _ o6.kept; clear o6)
      | (go_at_call 58; (with_reducible refine (O6.out.text A g r.env.length c r.env rfl HSE.out.1 HL7.out (by have := HF.out; omega)).mono ?_); rintro e v7 ⟨rfl, o7⟩; have O7 := Lib.hid o7; have Y7 := Z.out _ o7.kept; clear o7)
      | (go_at_call 60; (with_reducible refine (O7.out.bytes HL8.out).mono ?_); rintro e vz ⟨u, G, rfl, ub, un, uk⟩; have OZ := Lib.hid (And.intro ub (And.intro un uk)); have YZ := Z.out _ uk; clear ub un uk))
  go_wp2_with fail
  go_ret2
  exact ⟨_, G, rfl, OZ.out.1, fun y hy => ⟨by have h1 := (OZ.out.2.1 y hy).1; have h2 := KD.out.size; omega, (OZ.out.2.1 y hy).2⟩, KD.out.then OZ.out.2.2 (by simp)⟩
end Go.Proofs.YthfdkonhjpdflaaGreatDoor
end

section
namespace Go.Proofs.YthfdkonhjpdflaaGreatDoor
open Go.RowKit
set_option linter.unusedVariables false
set_option maxRecDepth 100000
set_option linter.unusedSimpArgs false

set_option maxHeartbeats 4000000 in
theorem bytesConfD_no (F : List Nat) (r : CF) (cv : Value) (w : World) (h : intsV w F cv r.chain) (hok : r.ok = false) :
    Calls Tryz.prog 19 #[.agg (cfL r cv).toArray] w fun e w' => e = .returned (.tuple #[.slice none 0 0, .int .i64 2]) ∧ keepBut [] w w' := by
  have k1 := (keepBut.refl [] w).alloc (.cells (cfL r cv).toArray 31)
  have r1 := rowAt.new w 31 (cfL r cv).toArray
  obtain ⟨w1, hw1⟩ : ∃ w1, w.alloc (.cells (cfL r cv).toArray 31) = w1 := ⟨_, rfl⟩
  rw [hw1] at k1 r1
  have HS := Lib.hid (And.intro r1.rangeAll (And.intro k1 (h.keep k1 (by simp))))
  have HW := Lib.hid hw1
  clear k1 r1 hw1 h
  go_enter Tryz.func19, Tryz.ntmps19
  go_upto_region 1 with (with_reducible refine wpList_box_agg _ rfl 31 (.tmp 0) rfl _ rfl ?_)
  rw [HW.out]
  go_upto_region 2 with (first
    | (refine wpList_load_mid rfl 31 (.tmp 1) rfl w.heap.size 0 rfl (cfL r cv) _ HS.out.1 Tryz.underlying31 rfl info_cf ?_)
    | (go_at_call 83; refine (checkConfD F r cv _ HS.out.2.2).mono ?_; rintro e w2 ⟨rfl, kk⟩; rw [hok]; have K2 := Lib.hid (HS.out.2.1.then kk (by simp)); clear kk))
  go_wp2_with fail
  go_ret2
  exact ⟨rfl, K2.out⟩
set_option maxHeartbeats 8000000 in
theorem bytesConfD_any (F : List Nat) (r : CF) (cv : Value) (w : World) (h : intsV w F cv r.chain) (hok : r.ok = true) :
    Calls Tryz.prog 19 #[.agg (cfL r cv).toArray] w (outPost w (cfB r)) := by
  have hf := r.ok_facts hok
  have k1 := (keepBut.refl [] w).alloc (.cells (cfL r cv).toArray 31)
  have r1 := rowAt.new w 31 (cfL r cv).toArray
  obtain ⟨w1, hw1⟩ : ∃ w1, w.alloc (.cells (cfL r cv).toArray 31) = w1 := ⟨_, rfl⟩
  rw [hw1] at k1 r1
  have HS := Lib.hid (And.intro r1.rangeAll (And.intro k1 (h.keep k1 (by simp))))
  have HW := Lib.hid hw1
  have HR1 := Lib.hid r1
  obtain ⟨A, c, g, rfl, _, hcm, hA, _⟩ := h
  have HF := Lib.hid hf
  have HA := Lib.hid hA
  clear k1 r1 hw1 hf hA
  go_enter Tryz.func19, Tryz.ntmps19
  go_upto_region 1 with (with_reducible refine wpList_box_agg _ rfl 31 (.tmp 0) rfl _ rfl ?_)
  rw [HW.out]
  go_upto_region 2 with (first
    | (refine wpList_load_mid rfl 31 (.tmp 1) rfl w.heap.size 0 rfl (cfL r (.slice A r.chain.length c)) _ HS.out.1 Tryz.underlying31 rfl info_cf ?_)
    | (go_at_call 83; refine (checkConfD F r _ _ HS.out.2.2).mono ?_; rintro e w2 ⟨rfl, kk⟩; rw [hok]; have r2 := kk.row HR1.out (by simp); have K2 := Lib.hid (HS.out.2.1.then kk (by simp)); clear kk))
  obtain ⟨L, hL⟩ : ∃ L, r.chain.length = L := ⟨_, rfl⟩
  obtain ⟨tb, htb⟩ : ∃ tb, w.heap.size = tb := ⟨_, rfl⟩
  rw [htb] at r2 ⊢
  rw [hL] at r2 ⊢
  have hf4 : L ≤ 4 := by have := HF.out.2.1; omega
  have hf1 : 1 ≤ L := by have := HF.out.2.1; omega
  have z0 : w2.drew.cell? ⟨tb, 0, none⟩ = some (.int .i64 r.num) := r2.cell 0
  have z1 : w2.drew.cell? ⟨tb, 1, none⟩ = some (.int .i64 r.full) := r2.cell 1
  have z2 : w2.drew.cell? ⟨tb, 2, none⟩ = some (.slice A L c) := (r2.cell 2).trans (by rw [← hL]; rfl)
  have Z : Hid (∀ w', keepBut [] w2.drew w' → (w'.cell? ⟨tb, 0, none⟩ = some (.int .i64 r.num) ∧ w'.cell? ⟨tb, 1, none⟩ = some (.int .i64 r.full) ∧ w'.cell? ⟨tb, 2, none⟩ = some (.slice A L c))) := Lib.hid (fun w' k => ⟨(k.cell (p := ⟨tb, 0, none⟩) r2.lt (by simp)).trans z0, (k.cell (p := ⟨tb, 1, none⟩) r2.lt (by simp)).trans z1, (k.cell (p := ⟨tb, 2, none⟩) r2.lt (by simp)).trans z2⟩)
  have Z0 := Z.out _ (keepBut.refl [] w2.drew)
  have KD := Lib.hid (K2.out.then ((keepBut.refl [] w2).drew) (by simp))
  have HL := Lib.hid hL
  clear r2 z0 z1 z2 hL
  have HC := Lib.hid (cb8 (n := r.num) (by have := HF.out.1; omega))
  have HL1 : Hid (([] : List UInt8).length ≤ 1000000000) := Lib.hid (by simp)
  have HL2 : Hid ((([] : List UInt8) ++ cb r.num.toNat).length ≤ 1000000000) := Lib.hid (by have := HC.out; simp only [List.length_append, List.length_nil]; omega)
  have HL3 : Hid (((([] : List UInt8) ++ cb r.num.toNat) ++ beBytes 1 r.full.toNat).length ≤ 1000000000) := Lib.hid (by have := HC.out; simp only [List.length_append, List.length_nil, be1]; omega)
  go_upto_region 4 with fail
  go_region_held3 (fun w' => w'.cell? ⟨tb, 0, none⟩ = some (.int .i64 r.num) ∧ w'.cell? ⟨tb, 1, none⟩ = some (.int .i64 r.full) ∧ w'.cell? ⟨tb, 2, none⟩ = some (.slice A L c)) (first | exact Z0 | exact Y0 | exact Y1 | exact Y2 | exact Y3)
    (first
      | (go_at_call 51; refine wOk2.start.mono ?_; rintro e v0 ⟨p, rfl, o0⟩; have O0 := Lib.hid o0; have Y0 := Z.out _ o0.kept; clear o0)
      | (go_at_call 54; (with_reducible refine (O0.out.count r.num (by have := HF.out.1; omega) (by have := HF.out.1; omega) HL1.out).mono ?_); rintro e v1 ⟨rfl, o1⟩; have O1 := Lib.hid o1; have Y1 := Z.out _ o1.kept; clear o1)
      | (go_at_call 52; (with_reducible refine (O1.out.num r.full (by have := HF.out.2.2.1; omega) (by have := HF.out.2.1; have := HF.out.2.2.1; omega) HL2.out).mono ?_); rintro e v2 ⟨rfl, o2⟩; have O2 := Lib.hid o2; have Y2 := Z.out _ o2.kept; clear o2)
      | (go_at_call 52; (with_reducible refine (O2.out.num (L : Int) (by omega) (by omega) HL3.out).mono ?_); rintro e v3 ⟨rfl, o3⟩; have O3 := Lib.hid o3; have Y3 := Z.out _ o3.kept; clear o3))
  obtain ⟨B, hB⟩ : ∃ B, ((([] : List UInt8) ++ cb r.num.toNat) ++ beBytes 1 r.full.toNat) ++ beBytes 1 (L : Int).toNat = B := ⟨_, rfl⟩
  have hBl : B.length ≤ 10 := by have := HC.out; rw [← hB]; simp only [List.length_append, List.length_nil, be1]; omega
  have HB := Lib.hid (show cfB r = B ++ chB r.chain by rw [← hB]; unfold cfB; rw [HL.out, Int.toNat_natCast])
  have O4 : Hid (wOk2 w2.drew v3 p B) := by rw [← hB]; exact O3
  clear hB O3 Y0 Y1 Y2 Z0 Y3
  go_upto_region 6 with fail
  go_loopw [5, 6] (fun v5 v27 wx => ∃ i : Nat, i ≤ L ∧ v5 = .pointer (some ⟨p, 0, none⟩) ∧ v27 = .int .i64 (i : Int) ∧ wOk2 w2.drew wx p (B ++ chB (r.chain.take i))) (fun _ v27 _ => L - (intOf v27).toNat)
  case atStart => exact ⟨0, by omega, rfl, rfl, by simpa [chB] using O4.out⟩
  case round =>
    obtain ⟨i, hi, rfl, rfl, ho⟩ := hrel
    have x2 := (Z.out wr ho.kept).2.2
    have HO := Lib.hid ho
    clear ho
    by_cases hlt : i < L
    · have hlt' : (i : Int) < (L : Int) := by omega
      have hn0 : (0 : Int) ≤ (i : Int) := by omega
      have hw1 : IntKind.i64.wrap ((i : Int) + 1) = (i : Int) + 1 := wraps_i64 _ (by omega) (by omega)
      obtain ⟨a, ha⟩ : ∃ a, r.chain[i]? = some a := ⟨_, List.getElem?_eq_getElem (by have := HL.out; omega)⟩
      obtain ⟨o, rfl, hgl, hcA⟩ := HA.out.2 (by have := HL.out; omega)
      have hkk := KD.out.then HO.out.kept (by simp)
      have y0 : wr.cell? ⟨g, o + i, none⟩ = some (.int .i64 a) := (hkk.cell (p := ⟨g, o + i, none⟩) hgl (by simp)).trans (hcA i (.int .i64 a) (by rw [List.getElem?_map, ha]; rfl))
      have ham := HF.out.2.2.2 a (List.mem_of_getElem? ha)
      have HT := Lib.hid (chB_take ha)
      have hll : (B ++ chB (r.chain.take i)).length ≤ 1000000000 := by rw [List.length_append, chB_len, List.length_take]; omega
      have HLL := Lib.hid hll
      clear ha hcA hkk hll
      go_wp2_with (first
        | (go_at_call 52; (with_reducible refine (HO.out.num a (by omega) (by omega) HLL.out).mono ?_); rintro e v4 ⟨rfl, o4⟩; have HO4 := Lib.hid o4; clear o4))
      go_roundw
      case rel => exact ⟨i + 1, by omega, rfl, by go_num, by rw [HT.out, ← List.append_assoc]; exact HO4.out⟩
      case measure => simp [intOf]; omega
    · obtain rfl : i = L := by omega
      have HE := Lib.hid (show B ++ chB (r.chain.take i) = cfB r by rw [HB.out, ← HL.out, List.take_length])
      rw [HE.out] at HO
      have hll : (cfB r).length ≤ 1000000000 := by rw [HB.out, List.length_append, chB_len, HL.out]; omega
      have HLL := Lib.hid hll
      clear hll
      go_wp2_with (first
        | (go_at_call 60; (with_reducible refine (HO.out.bytes HLL.out).mono ?_); rintro e vz ⟨u, G, rfl, ub, un, uk⟩; have OZ := Lib.hid (And.intro ub (And.intro un uk)); clear ub un uk))
      go_ret2
      exact ⟨_, G, rfl, OZ.out.1, fun y hy => ⟨by have h1 := (OZ.out.2.1 y hy).1; have h2 := KD.out.size; omega, (OZ.out.2.1 y hy).2⟩, KD.out.then OZ.out.2.2 (by simp)⟩
end Go.Proofs.YthfdkonhjpdflaaGreatDoor
end

section
namespace Go.Proofs.YthfdkonhjpdflaaGreatDoor
open Go.RowKit
set_option linter.unusedVariables false
set_option maxRecDepth 100000
set_option linter.unusedSimpArgs false

/-- a writer, and a block that it has not -/
def wOkA (w0 w : World) (p : Nat) (l : List UInt8) (g : Nat) : Prop := ∃ v, isWr2 w p v ⟨l, 0⟩ ∧ w0.heap.size ≤ p ∧ (∀ x ∈ homes v, w0.heap.size ≤ x) ∧ keepBut [] w0 w ∧ g ≠ p ∧ g ∉ homes v
theorem wOk2.apart {w0 wr wb : World} {p : Nat} {l : List UInt8} (h : wOk2 w0 wr p l) (hk : keepBut [] wr wb) (g : Nat) (hg : wr.heap.size ≤ g) : wOkA w0 wb p l g := by
  obtain ⟨v, a, b, d, k⟩ := h
  have hp1 := a.1.lt
  have hp2 := a.2.lt
  exact ⟨v, a.keep hk (by simp) (by simp), b, d, k.then hk (by simp), by omega, fun hm => by have := hp2 g hm; omega⟩
theorem wOkA.kept {w0 w : World} {p : Nat} {l : List UInt8} {g : Nat} (h : wOkA w0 w p l g) : keepBut [] w0 w := by obtain ⟨v, _, _, _, h, _⟩ := h; exact h
theorem wOkA.count {w0 w : World} {p g : Nat} {l : List UInt8} (h : wOkA w0 w p l g) (n : Int) (h0 : 0 ≤ n) (h1 : n ≤ 9007199254740991) (hb : l.length ≤ 1000000000) (hg : g < w.heap.size) :
    Calls Tryz.prog 54 #[.pointer (some ⟨p, 0, none⟩), .int .i64 n] w fun e w' => e = .returned (.pointer (some ⟨p, 0, none⟩)) ∧ wOkA w0 w' p (l ++ cb n.toNat) g ∧ ∀ A t, seen w A g t → seen w' A g t := by
  obtain ⟨v, a, b, c, d, e1, e2⟩ := h
  refine (wcount_any2 p v _ n w a hb).mono fun e w' hp => ?_
  rw [ws_count l h0 h1] at hp
  obtain ⟨he, v', hw, hk, hh⟩ := hp
  have hs := d.size
  refine ⟨he, ⟨v', hw, b, fun x hx => ?_, d.then hk (fun x hx => .inr ?_), e1, fun hm => ?_⟩, fun A t hsn => hsn.keep hk (fun _ hm => ?_)⟩
  · rcases hh x hx with q | q
    · exact c x q
    · omega
  · rcases List.mem_cons.1 hx with rfl | hx
    · exact b
    · exact c x hx
  · rcases hh g hm with q | q
    · exact e2 q
    · omega
  · rcases List.mem_cons.1 hm with q | q
    · exact e1 q
    · exact e2 q
theorem wOkA.text {w0 w : World} {p g : Nat} {l : List UInt8} (h : wOkA w0 w p l g) (A : Option Addr) (n c : Nat) (t : List UInt8) (hn : t.length = n) (hs : seen w A g t) (hb : l.length ≤ 1000000000) (hb2 : t.length ≤ 1000000000) :
    Calls Tryz.prog 58 #[.pointer (some ⟨p, 0, none⟩), .slice A n c] w (onPost2 w0 p ((l ++ cb t.length) ++ t)) := by
  subst hn
  obtain ⟨v, a, b, d, k, e1, e2⟩ := h
  refine (wtext_any2 p v _ A g c t w a hs (fun _ => ⟨e1, e2⟩) hb hb2).mono fun e w' hp => ?_
  rw [ws_text l t hb2] at hp
  exact wOk2.step a b d k hp
theorem has_bits {k : Int} (h : 1 ≤ k ∧ k ≤ 14) : numK.contains k = (bitA (fieldsP k) 1 != 0) ∧ seqK.contains k = (bitA (fieldsP k) 2 != 0) ∧ ballotK.contains k = (bitA (fieldsP k) 4 != 0) ∧ (k == 8) = (bitA (fieldsP k) 8 != 0) ∧ reqK.contains k = (bitA (fieldsP k) 16 != 0) ∧ (k == 2) = (bitA (fieldsP k) 32 != 0) ∧ confK2.contains k = (bitA (fieldsP k) 64 != 0) ∧ (k == 11) = (bitA (fieldsP k) 128 != 0) ∧ (k == 6) = (bitA (fieldsP k) 256 != 0) := by
  obtain rfl | rfl | rfl | rfl | rfl | rfl | rfl | rfl | rfl | rfl | rfl | rfl | rfl | rfl : k = 1 ∨ k = 2 ∨ k = 3 ∨ k = 4 ∨ k = 5 ∨ k = 6 ∨ k = 7 ∨ k = 8 ∨ k = 9 ∨ k = 10 ∨ k = 11 ∨ k = 12 ∨ k = 13 ∨ k = 14 := by omega
  all_goals exact ⟨by kernel_rfl, by kernel_rfl, by kernel_rfl, by kernel_rfl, by kernel_rfl, by kernel_rfl, by kernel_rfl, by kernel_rfl, by kernel_rfl⟩
theorem votes_off {p : PK} {h : Int} (hc : p.same (p.cut h) = true) (hb : bitA h 128 = 0) : p.votes = [] := by
  have e := (PK.same_iff _ _).1 hc
  have := congrArg PK.votes e
  rw [this]
  show oV (bitA h 128) [] p.votes = _
  unfold oV
  rw [if_pos hb]
theorem cfB_ne (c : CF) : cfB c ≠ [] := fun e => by
  have := congrArg List.length e
  unfold cfB at this
  simp only [List.length_append, be1, List.length_nil] at this
  omega
set_option maxHeartbeats 8000000 in
theorem bytesD_no (F : List Nat) (p : PK) (ev av cv vv bw : Value) (w : World) (h : pkV w F p ev av cv vv bw) (hf : p.fits) (hok : p.ok = false) :
    Calls Tryz.prog 8 #[.agg (pkL p ev av cv vv bw).toArray] w fun e w' => e = .returned (.tuple #[.slice none 0 0, .int .i64 2]) ∧ keepBut [] w w' := by
  have k1 := (keepBut.refl [] w).alloc (.cells (pkL p ev av cv vv bw).toArray 34)
  have r1 := rowAt.new w 34 (pkL p ev av cv vv bw).toArray
  obtain ⟨w1, hw1⟩ : ∃ w1, w.alloc (.cells (pkL p ev av cv vv bw).toArray 34) = w1 := ⟨_, rfl⟩
  rw [hw1] at k1 r1
  have hI : (Tryz.prog.info? 34).map (·.size) = some (pkL p ev av cv vv bw).length := by rw [pkL_len h.rn h.an]; exact info_pk
  have HS := Lib.hid (And.intro r1.rangeAll (And.intro hI (And.intro k1 (And.intro (h.keep k1 (by simp)) hf))))
  have HW := Lib.hid hw1
  clear k1 r1 hw1 h hI hf
  go_enter Tryz.func8, Tryz.ntmps8
  go_upto_region 1 with (with_reducible refine wpList_box_agg _ rfl 34 (.tmp 0) rfl _ rfl ?_)
  rw [HW.out]
  go_upto_region 2 with (first
    | (refine wpList_load_mid rfl 34 (.tmp 1) rfl w.heap.size 0 rfl (pkL p ev av cv vv bw) _ HS.out.1 Tryz.underlying34 rfl HS.out.2.1 ?_)
    | (go_at_call 10; refine (checkD F p ev av cv vv bw _ HS.out.2.2.2.1 HS.out.2.2.2.2).mono ?_; rintro e w2 ⟨rfl, kk⟩; rw [okD_ok, hok]; have K2 := Lib.hid (HS.out.2.2.1.then kk (by simp)); clear kk))
  go_wp2_with fail
  go_ret2
  exact ⟨rfl, K2.out⟩
set_option maxHeartbeats 16000000 in
theorem bytesD_any (F : List Nat) (p : PK) (ev av cv vv bw : Value) (w : World) (h : pkV w F p ev av cv vv bw) (hok : p.ok = true) :
    Calls Tryz.prog 8 #[.agg (pkL p ev av cv vv bw).toArray] w (outPost w (pkB p)) := by
  have hf := p.ok_facts hok
  have k1 := (keepBut.refl [] w).alloc (.cells (pkL p ev av cv vv bw).toArray 34)
  have r1 := rowAt.new w 34 (pkL p ev av cv vv bw).toArray
  obtain ⟨w1, hw1⟩ : ∃ w1, w.alloc (.cells (pkL p ev av cv vv bw).toArray 34) = w1 := ⟨_, rfl⟩
  rw [hw1] at k1 r1
  have hI : (Tryz.prog.info? 34).map (·.size) = some (pkL p ev av cv vv bw).length := by rw [pkL_len h.rn h.an]; exact info_pk
  have HS := Lib.hid (And.intro r1.rangeAll (And.intro hI (And.intro k1 (And.intro (h.keep k1 (by simp)) (PK.ok_fits hok)))))
  have HW := Lib.hid hw1
  have HR1 := Lib.hid r1
  have HF := Lib.hid hf
  have HP := Lib.hid h
  have hrn := h.rn
  have han := h.an
  clear k1 r1 hw1 h hI hf
  obtain ⟨A0, c0, g0, rfl, _⟩ := id HP.out.re
  obtain ⟨A1, c1, g1, rfl, _⟩ := id HP.out.ae
  obtain ⟨A2, c2, g2, rfl, _⟩ := id HP.out.cc
  obtain ⟨A3, c3, g3, T3, rfl, _⟩ := id HP.out.vs
  obtain ⟨A4, c4, g4, rfl, _, _, hs4, _⟩ := id HP.out.bs
  have HS4 := Lib.hid hs4
  clear hs4
  go_enter Tryz.func8, Tryz.ntmps8
  go_upto_region 1 with (with_reducible refine wpList_box_agg _ rfl 34 (.tmp 0) rfl _ rfl ?_)
  rw [HW.out]
  go_upto_region 2 with (first
    | (refine wpList_load_mid rfl 34 (.tmp 1) rfl w.heap.size 0 rfl (pkL p _ _ _ _ _) _ HS.out.1 Tryz.underlying34 rfl HS.out.2.1 ?_)
    | (go_at_call 10; refine (checkD F p _ _ _ _ _ _ HS.out.2.2.2.1 HS.out.2.2.2.2).mono ?_; rintro e w2 ⟨rfl, kk⟩; rw [okD_ok, hok]; have r2 := kk.row HR1.out (by simp); have K2 := Lib.hid (HS.out.2.2.1.then kk (by simp)); clear kk))
  obtain ⟨tb, htb⟩ : ∃ tb, w.heap.size = tb := ⟨_, rfl⟩
  have HP2 := Lib.hid (HP.out.keep K2.out (by simp))
  rw [htb] at r2 ⊢
  have HTB := Lib.hid htb
  have x0 : w2.cell? ⟨tb, 0, none⟩ = some (.int .i64 p.kind) := (r2.cell 0).trans rfl
  clear htb
  go_upto_region 5 with fail
  have z0 : w2.drew.cell? ⟨tb, 0, none⟩ = some (.int .i64 p.kind) := x0
  have z1 : w2.drew.cell? ⟨tb, 1, none⟩ = some (.int .i64 p.frm) := (r2.cell 1).trans rfl
  have z2 : w2.drew.cell? ⟨tb, 2, none⟩ = some (.int .i64 p.dst) := (r2.cell 2).trans rfl
  have r2d : rowAt w2.drew tb 34 _ := r2
  have PA : Hid (∀ wx, keepBut [] w2.drew wx → pkAt wx tb p (.slice A0 p.req.env.length c0) (.slice A1 p.ans.env.length c1) (.slice A2 p.conf.chain.length c2) (.slice A3 p.votes.length c3) (.slice A4 p.bytes.length c4)) := Lib.hid (fun wx k => (k.row r2d (by simp)).pk hrn han)
  have Z0 : w2.drew.cell? ⟨tb, 0, none⟩ = some (.int .i64 p.kind) ∧ w2.drew.cell? ⟨tb, 1, none⟩ = some (.int .i64 p.frm) ∧ w2.drew.cell? ⟨tb, 2, none⟩ = some (.int .i64 p.dst) := ⟨z0, z1, z2⟩
  have KD := Lib.hid (K2.out.then ((keepBut.refl [] w2).drew) (by simp))
  have HPD := Lib.hid (HP2.out.keep ((keepBut.refl [] w2).drew) (by simp))
  have HLS := Lib.hid (pk_lens hok hrn han)
  have HKD := Lib.hid (And.intro (fieldsP_kind HF.out.1) (And.intro (nodeP_range HF.out.2.1) (nodeP_range HF.out.2.2.1)))
  have HBT := Lib.hid (has_bits HKD.out.1)
  clear r2 r2d x0 z0 z1 z2
  go_region_held3 (fun w' => w'.cell? ⟨tb, 0, none⟩ = some (.int .i64 p.kind) ∧ w'.cell? ⟨tb, 1, none⟩ = some (.int .i64 p.frm) ∧ w'.cell? ⟨tb, 2, none⟩ = some (.int .i64 p.dst)) (first | exact Z0 | exact Y0 | exact Y1 | exact Y2 | exact Y3)
    (first
      | (go_at_call 51; refine wOk2.start.mono ?_; rintro e v0 ⟨q, rfl, o0⟩; have O0 := Lib.hid o0; have Y0 := And.intro (PA.out _ o0.kept).c0 (And.intro (PA.out _ o0.kept).c1 (PA.out _ o0.kept).c2); clear o0)
      | (go_at_call 52; (with_reducible refine (O0.out.num p.kind (by have := HKD.out; omega) (by have := HKD.out; omega) (by simp)).mono ?_); rintro e v1 ⟨rfl, o1⟩; have O1 := Lib.hid o1; have Y1 := And.intro (PA.out _ o1.kept).c0 (And.intro (PA.out _ o1.kept).c1 (PA.out _ o1.kept).c2); clear o1)
      | (go_at_call 52; (with_reducible refine (O1.out.num p.frm (by have := HKD.out; omega) (by have := HKD.out; omega) (by simp only [List.length_append, be1, List.length_nil]; omega)).mono ?_); rintro e v2 ⟨rfl, o2⟩; have O2 := Lib.hid o2; have Y2 := And.intro (PA.out _ o2.kept).c0 (And.intro (PA.out _ o2.kept).c1 (PA.out _ o2.kept).c2); clear o2)
      | (go_at_call 52; (with_reducible refine (O2.out.num p.dst (by have := HKD.out; omega) (by have := HKD.out; omega) (by simp only [List.length_append, be1, List.length_nil]; omega)).mono ?_); rintro e v3 ⟨rfl, o3⟩; have O3 := Lib.hid o3; have Y3 := And.intro (PA.out _ o3.kept).c0 (And.intro (PA.out _ o3.kept).c1 (PA.out _ o3.kept).c2); clear o3))
  clear O0 O1 O2 Y0 Y1 Y2 Y3 Z0
  have P0 : Hid (wOk2 w2.drew v3 q (pkH p)) := O3
  clear O3
  obtain ⟨f, hf⟩ : ∃ f, fieldsP p.kind = f := ⟨_, rfl⟩
  rw [hf] at HF HLS HBT
  have HFF := Lib.hid hf
  clear hf
  go_upto_if 34 with (go_at_call 53; refine (hasNumR p.kind _).mono ?_; rintro e w' ⟨rfl, kk⟩; rw [HBT.out.1]; have H0 := Lib.hid (P0.out.over kk); clear kk P0)
  go_cut [6] (fun v6 wx => v6 = .pointer (some ⟨q, 0, none⟩) ∧ wOk2 w2.drew wx q (pk1 p f))
  case first =>
   by_cases hb : bitA f 1 = 0
   · have hbb : (bitA f 1 != 0) = false := by simp [hb]
     have E := Lib.hid (aI_off (pkH p) (cb p.num.toNat) hb)
     clear hb
     go_wp2_with fail
     go_meet
     exact ⟨rfl, by rw [show pk1 p f = _ from E.out]; exact H0.out⟩
   · have hbb : (bitA f 1 != 0) = true := by simp [hb]
     have E := Lib.hid (aI_on (pkH p) (cb p.num.toNat) hb)
     have y := (PA.out _ H0.out.kept).c3
     go_wp2_with (first
       | (go_at_call 54; refine (H0.out.count p.num HF.out.2.2.2.2.1.1 HF.out.2.2.2.2.1.2 (by have := HLS.out; omega)).mono ?_; rintro e wx ⟨rfl, ox⟩))
     go_meet
     exact ⟨rfl, by rw [show pk1 p f = _ from E.out]; exact ox⟩
  obtain ⟨rfl, ho⟩ := hcut
  have P1 := Lib.hid ho
  clear ho
  go_upto_if 40 with (go_at_call 55; refine (hasSeqR p.kind _).mono ?_; rintro e w' ⟨rfl, kk⟩; rw [HBT.out.2.1]; have H1 := Lib.hid (P1.out.over kk); clear kk P1)
  go_cut [6] (fun v6 wx => v6 = .pointer (some ⟨q, 0, none⟩) ∧ wOk2 w2.drew wx q (pk2 p f))
  case first =>
   by_cases hb : bitA f 2 = 0
   · have hbb : (bitA f 2 != 0) = false := by simp [hb]
     have E := Lib.hid (aI_off (pk1 p f) (cb (p.seq + 1).toNat) hb)
     clear hb
     go_wp2_with fail
     go_meet
     exact ⟨rfl, by rw [show pk2 p f = _ from E.out]; exact H1.out⟩
   · have hbb : (bitA f 2 != 0) = true := by simp [hb]
     have E := Lib.hid (aI_on (pk1 p f) (cb (p.seq + 1).toNat) hb)
     have y := (PA.out _ H1.out.kept).c4
     have hws : IntKind.i64.wrap (p.seq + 1) = p.seq + 1 := wraps_i64 _ (by have := seqP_range HF.out.2.2.2.2.2.2.1; omega) (by have := seqP_range HF.out.2.2.2.2.2.2.1; omega)
     go_wp2_with (first
       | (go_at_call 54; refine (H1.out.count (p.seq + 1) (by have := seqP_range HF.out.2.2.2.2.2.2.1; omega) (by have := seqP_range HF.out.2.2.2.2.2.2.1; omega) (by have := HLS.out; omega)).mono ?_; rintro e wx ⟨rfl, ox⟩))
     go_meet
     exact ⟨rfl, by rw [show pk2 p f = _ from E.out]; exact ox⟩
  obtain ⟨rfl, ho⟩ := hcut
  have P2 := Lib.hid ho
  clear ho
  go_upto_if 47 with (go_at_call 56; refine (hasBallotR p.kind _).mono ?_; rintro e w' ⟨rfl, kk⟩; rw [HBT.out.2.2.1]; have H2 := Lib.hid (P2.out.over kk); clear kk P2)
  go_cut [6] (fun v6 wx => v6 = .pointer (some ⟨q, 0, none⟩) ∧ wOk2 w2.drew wx q (pk3 p f))
  case first =>
   by_cases hb : bitA f 4 = 0
   · have hbb : (bitA f 4 != 0) = false := by simp [hb]
     have E := Lib.hid (aI_off (pk2 p f) (cb p.ballot.toNat) hb)
     clear hb
     go_wp2_with fail
     go_meet
     exact ⟨rfl, by rw [show pk3 p f = _ from E.out]; exact H2.out⟩
   · have hbb : (bitA f 4 != 0) = true := by simp [hb]
     have E := Lib.hid (aI_on (pk2 p f) (cb p.ballot.toNat) hb)
     have y := (PA.out _ H2.out.kept).c5
     go_wp2_with (first
       | (go_at_call 54; refine (H2.out.count p.ballot HF.out.2.2.2.2.2.1.1 HF.out.2.2.2.2.2.1.2 (by have := HLS.out; omega)).mono ?_; rintro e wx ⟨rfl, ox⟩))
     go_meet
     exact ⟨rfl, by rw [show pk3 p f = _ from E.out]; exact ox⟩
  obtain ⟨rfl, ho⟩ := hcut
  have P3 := Lib.hid ho
  clear ho
  go_upto_if 53 with fail
  have H3 := P3
  clear P3
  go_cut [6] (fun v6 wx => v6 = .pointer (some ⟨q, 0, none⟩) ∧ wOk2 w2.drew wx q (pk4 p f))
  case first =>
   by_cases hb : bitA f 8 = 0
   · have hbb : (p.kind == 8) = false := by rw [HBT.out.2.2.2.1]; simp [hb]
     have E := Lib.hid (aI_off (pk3 p f) (beBytes 1 (if p.ready then 1 else 0)) hb)
     clear hb
     go_wp2_with fail
     go_meet
     exact ⟨rfl, by rw [show pk4 p f = _ from E.out]; exact H3.out⟩
   · have hbb : (p.kind == 8) = true := by rw [HBT.out.2.2.2.1]; simp [hb]
     have E := Lib.hid (aI_on (pk3 p f) (beBytes 1 (if p.ready then 1 else 0)) hb)
     have y := (PA.out _ H3.out.kept).c6
     obtain ⟨rd, hrd⟩ : ∃ r, p.ready = r := ⟨_, rfl⟩
     rw [hrd] at y
     have HRD := Lib.hid hrd
     clear hrd
     cases rd
     all_goals (go_wp2_with (first
         | (go_at_call 52; refine (H3.out.num _ (by omega) (by omega) (by have := HLS.out; omega)).mono ?_; rintro e wx ⟨rfl, ox⟩)))
     all_goals go_meet
     all_goals exact ⟨rfl, by rw [show pk4 p f = _ from E.out, HRD.out]; exact ox⟩
  obtain ⟨rfl, ho⟩ := hcut
  have P4 := Lib.hid ho
  clear ho
  go_upto_if 60 with (go_at_call 57; refine (hasReqR p.kind _).mono ?_; rintro e w' ⟨rfl, kk⟩; rw [HBT.out.2.2.2.2.1]; have H4 := Lib.hid (P4.out.over kk); clear kk P4)
  go_cut [6] (fun v6 wx => v6 = .pointer (some ⟨q, 0, none⟩) ∧ wOk2 w2.drew wx q (pk5 p f))
  case first =>
   by_cases hb : bitA f 16 = 0
   · have hbb : (bitA f 16 != 0) = false := by simp [hb]
     have E := Lib.hid (aI_off (pk4 p f) (cb (reqB p.req).length ++ reqB p.req) hb)
     clear hb
     go_wp2_with fail
     go_meet
     exact ⟨rfl, by rw [show pk5 p f = _ from E.out]; exact H4.out⟩
   · have hbb : (bitA f 16 != 0) = true := by simp [hb]
     have E := Lib.hid (aI_on (pk4 p f) (cb (reqB p.req).length ++ reqB p.req) hb)
     have y := Lib.hid (PA.out _ H4.out.kept).rq
     have hI : Hid ((Tryz.prog.info? 26).map (·.size) = some (rqL p.req (.slice A0 p.req.env.length c0)).length) := Lib.hid (by rw [rqL_len hrn]; exact info_rq)
     go_wp2_with (first
       | (refine wpList_load_mid rfl 26 (.tmp 62) rfl tb 7 rfl (rqL p.req (.slice A0 p.req.env.length c0)) _ y.out Tryz.underlying26 rfl hI.out ?_)
       | (go_at_call 15; refine (bytesReqD_any F p.req _ _ ⟨hrn, HPD.out.re.keep H4.out.kept (by simp)⟩ (HF.out.2.2.2.2.2.2.2.2.1.resolve_left hb)).mono ?_; rintro e wb ⟨u, G, rfl, ub, un, uk⟩; obtain ⟨Ab, cbb, gb, rfl, _, _, sb, mb⟩ := ub; have QB := Lib.hid (And.intro sb (And.intro (fun hne : reqB p.req ≠ [] => (un gb (mb hne)).1) uk)); clear sb mb un uk)
       | (go_at_call 58; refine (H4.out.textNew QB.out.2.2 Ab gb _ cbb (reqB p.req) rfl QB.out.1 QB.out.2.1 (by have := HLS.out; omega) (by have := reqB_len (HF.out.2.2.2.2.2.2.2.2.1.resolve_left hb) hrn; omega)).mono ?_; rintro e wx ⟨rfl, ox⟩))
     go_meet
     exact ⟨rfl, by rw [show pk5 p f = _ from E.out]; rw [← List.append_assoc]; exact ox⟩
  obtain ⟨rfl, ho⟩ := hcut
  have P5 := Lib.hid ho
  clear ho
  go_upto_if 71 with fail
  have H5 := P5
  clear P5
  go_cut [6] (fun v6 wx => v6 = .pointer (some ⟨q, 0, none⟩) ∧ wOk2 w2.drew wx q (pk6 p f))
  case first =>
   by_cases hb : bitA f 32 = 0
   · have hbb : (p.kind == 2) = false := by rw [HBT.out.2.2.2.2.2.1]; simp [hb]
     have E := Lib.hid (aI_off (pk5 p f) (cb (ansB p.ans).length ++ ansB p.ans) hb)
     clear hb
     go_wp2_with fail
     go_meet
     exact ⟨rfl, by rw [show pk6 p f = _ from E.out]; exact H5.out⟩
   · have hbb : (p.kind == 2) = true := by rw [HBT.out.2.2.2.2.2.1]; simp [hb]
     have E := Lib.hid (aI_on (pk5 p f) (cb (ansB p.ans).length ++ ansB p.ans) hb)
     have y := Lib.hid (PA.out _ H5.out.kept).an
     have hI : Hid ((Tryz.prog.info? 28).map (·.size) = some (anL p.ans (.slice A1 p.ans.env.length c1)).length) := Lib.hid (by rw [anL_len han]; exact info_an)
     go_wp2_with (first
       | (refine wpList_load_mid rfl 28 (.tmp 73) rfl tb 44 rfl (anL p.ans (.slice A1 p.ans.env.length c1)) _ y.out Tryz.underlying28 rfl hI.out ?_)
       | (go_at_call 17; refine (bytesAnsD_any F p.ans _ _ ⟨han, HPD.out.ae.keep H5.out.kept (by simp)⟩ (HF.out.2.2.2.2.2.2.2.2.2.1.resolve_left hb)).mono ?_; rintro e wb ⟨u, G, rfl, ub, un, uk⟩; obtain ⟨Ab, cbb, gb, rfl, _, _, sb, mb⟩ := ub; have QB := Lib.hid (And.intro sb (And.intro (fun hne : ansB p.ans ≠ [] => (un gb (mb hne)).1) uk)); clear sb mb un uk)
       | (go_at_call 58; refine (H5.out.textNew QB.out.2.2 Ab gb _ cbb (ansB p.ans) rfl QB.out.1 QB.out.2.1 (by have := HLS.out; omega) (by have := ansB_len (HF.out.2.2.2.2.2.2.2.2.2.1.resolve_left hb) han; omega)).mono ?_; rintro e wx ⟨rfl, ox⟩))
     go_meet
     exact ⟨rfl, by rw [show pk6 p f = _ from E.out]; rw [← List.append_assoc]; exact ox⟩
  obtain ⟨rfl, ho⟩ := hcut
  have P6 := Lib.hid ho
  clear ho
  go_upto_if 82 with (go_at_call 59; refine (hasConfR p.kind _).mono ?_; rintro e w' ⟨rfl, kk⟩; rw [HBT.out.2.2.2.2.2.2.1]; have H6 := Lib.hid (P6.out.over kk); clear kk P6)
  go_cut [6] (fun v6 wx => v6 = .pointer (some ⟨q, 0, none⟩) ∧ wOk2 w2.drew wx q (pk7 p f))
  case first =>
   by_cases hb : bitA f 64 = 0
   · have hbb : (bitA f 64 != 0) = false := by simp [hb]
     have E := Lib.hid (aI_off (pk6 p f) (cb (cfB p.conf).length ++ cfB p.conf) hb)
     clear hb
     go_wp2_with fail
     go_meet
     exact ⟨rfl, by rw [show pk7 p f = _ from E.out]; exact H6.out⟩
   · have hbb : (bitA f 64 != 0) = true := by simp [hb]
     have E := Lib.hid (aI_on (pk6 p f) (cb (cfB p.conf).length ++ cfB p.conf) hb)
     have y0 := (PA.out _ H6.out.kept).d0
     have y1 := (PA.out _ H6.out.kept).d1
     have y2 := (PA.out _ H6.out.kept).d2
     go_wp2_with (first
       | (go_at_call 19; refine (bytesConfD_any F p.conf _ _ (HPD.out.cc.keep H6.out.kept (by simp)) (HF.out.2.2.2.2.2.2.2.2.2.2.1.resolve_left hb)).mono ?_; rintro e wb ⟨u, G, rfl, ub, un, uk⟩; obtain ⟨Ab, cbb, gb, rfl, _, _, sb, mb⟩ := ub; have QB := Lib.hid (And.intro sb (And.intro (fun hne : cfB p.conf ≠ [] => (un gb (mb hne)).1) uk)); clear sb mb un uk)
       | (go_at_call 58; refine (H6.out.textNew QB.out.2.2 Ab gb _ cbb (cfB p.conf) rfl QB.out.1 QB.out.2.1 (by have := HLS.out; omega) (by have := cfB_len (HF.out.2.2.2.2.2.2.2.2.2.2.1.resolve_left hb); omega)).mono ?_; rintro e wx ⟨rfl, ox⟩))
     go_meet
     exact ⟨rfl, by rw [show pk7 p f = _ from E.out]; rw [← List.append_assoc]; exact ox⟩
  obtain ⟨rfl, ho⟩ := hcut
  have P7 := Lib.hid ho
  clear ho
  have HVS := Lib.hid (And.intro HPD.out.vs (And.intro HF.out.2.2.2.2.2.2.2.2.2.2.2 (fun hb => votes_off HF.out.2.2.2.1 hb)))
  obtain ⟨L, hL⟩ : ∃ L, p.votes.length = L := ⟨_, rfl⟩
  have hL8 : L ≤ 8 := by
    have := HVS.out.2.1
    unfold vtsOk at this
    rw [Bool.and_eq_true, decide_eq_true_eq] at this
    omega
  have HL := Lib.hid hL
  rw [hL] at PA HVS
  clear hL
  go_upto_if 93 with fail
  have H7 := P7
  clear P7
  go_cut [6] (fun v6 wx => v6 = .pointer (some ⟨q, 0, none⟩) ∧ wOk2 w2.drew wx q (aI (bitA f 128) (pk7 p f) (beBytes 1 L)))
  case first =>
   by_cases hb : bitA f 128 = 0
   · have hbb : (p.kind == 11) = false := by rw [HBT.out.2.2.2.2.2.2.2.1]; simp [hb]
     have E := Lib.hid (aI_off (pk7 p f) (beBytes 1 L) hb)
     clear hb
     go_wp2_with fail
     go_meet
     exact ⟨rfl, by rw [show aI (bitA f 128) (pk7 p f) (beBytes 1 L) = _ from E.out]; exact H7.out⟩
   · have hbb : (p.kind == 11) = true := by rw [HBT.out.2.2.2.2.2.2.2.1]; simp [hb]
     have E := Lib.hid (aI_on (pk7 p f) (beBytes 1 L) hb)
     have y := (PA.out _ H7.out.kept).d3
     go_wp2_with (first
       | (go_at_call 52; refine (H7.out.num (L : Int) (by omega) (by omega) (by have := HLS.out; omega)).mono ?_; rintro e wx ⟨rfl, ox⟩))
     go_meet
     exact ⟨rfl, by rw [show aI (bitA f 128) (pk7 p f) (beBytes 1 L) = _ from E.out]; rw [Int.toNat_natCast] at ox; exact ox⟩
  obtain ⟨rfl, ho⟩ := hcut
  have P8 := Lib.hid ho
  clear ho
  obtain ⟨B, hB⟩ : ∃ B, aI (bitA f 128) (pk7 p f) (beBytes 1 L) = B := ⟨_, rfl⟩
  have hBl : B.length ≤ 10001 := by
    have := HLS.out
    rw [← hB]
    unfold aI
    split
    · omega
    · rw [List.length_append, be1]; omega
  rw [hB] at P8
  have HB8 : Hid (B ++ vtsE p.votes = pk8 p f) := Lib.hid (by
    rw [← hB]
    by_cases hb : bitA f 128 = 0
    · rw [HVS.out.2.2 hb, aI_off _ _ hb, show pk8 p f = aI (bitA f 128) (pk7 p f) (beBytes 1 p.votes.length ++ vtsE p.votes) from rfl, aI_off _ _ hb]
      simp [vtsE]
    · rw [aI_on _ _ hb, show pk8 p f = aI (bitA f 128) (pk7 p f) (beBytes 1 p.votes.length ++ vtsE p.votes) from rfl, aI_on _ _ hb, HL.out, List.append_assoc])
  have HOK : Hid (vtsB p.votes = true) := Lib.hid (by
    have := HVS.out.2.1
    unfold vtsOk at this
    rw [Bool.and_eq_true] at this
    exact this.2)
  clear hB
  go_upto_region 29 with fail
  go_loopw [6, 14] (fun v6 v14 wx => ∃ i : Nat, i ≤ L ∧ v6 = .pointer (some ⟨q, 0, none⟩) ∧ v14 = .int .i64 (i : Int) ∧ wOk2 w2.drew wx q (B ++ vtsE (p.votes.take i))) (fun _ v14 _ => L - (intOf v14).toNat)
  case atStart => exact ⟨0, by omega, rfl, rfl, by simpa [vtsE] using P8.out⟩
  case round =>
    obtain ⟨i, hi, rfl, rfl, ho⟩ := hrel
    have HO3 := Lib.hid ho
    have y3 := (PA.out _ ho.kept).d3
    clear ho
    by_cases hlt : i < L
    · have hlt' : (i : Int) < (L : Int) := by omega
      have hn0 : (0 : Int) ≤ (i : Int) := by omega
      have hw1 : IntKind.i64.wrap ((i : Int) + 1) = (i : Int) + 1 := wraps_i64 _ (by omega) (by omega)
      obtain ⟨a, ha⟩ : ∃ a, p.votes[i]? = some a := ⟨_, List.getElem?_eq_getElem (by have := HL.out; omega)⟩
      obtain ⟨g, o, cv, rfl, hgl, _, hcv, x0, x1, x2, x3⟩ := HVS.out.1.at ha
      have e := fun z => HO3.out.kept.cell (p := ⟨g, z, none⟩) hgl (by simp)
      rw [← e] at x0 x1 x2 x3
      clear e
      have hok := vtsB_at HOK.out ha
      have HT := Lib.hid (vtsE_take ha)
      have hll : (B ++ vtsE (p.votes.take i)).length ≤ 20000 := by
        have h1 := vtsE_len _ (vtsB_take HOK.out i)
        have h2 : (p.votes.take i).length ≤ 8 := by rw [List.length_take]; omega
        rw [List.length_append]; omega
      obtain ⟨Bi, hBi⟩ : ∃ Bi, B ++ vtsE (p.votes.take i) = Bi := ⟨_, rfl⟩
      rw [hBi] at hll HO3
      have HBi := Lib.hid hBi
      obtain ⟨ab, an, af, al⟩ := a
      have hfb : 1 ≤ ab ∧ ab ≤ 9007199254740991 := by
        unfold VT.ok at hok
        rw [Bool.and_eq_true, inP_iff] at hok
        exact hok.1
      have hcok : CF.ok ⟨an, af, al⟩ = true := by unfold VT.ok at hok; rw [Bool.and_eq_true] at hok; exact hok.2
      have hcl : (cfB ⟨an, af, al⟩).length ≤ 14 := cfB_len hcok
      have hc8 := cb8 (n := ab) hfb.2
      have HK := Lib.hid (And.intro hcok (And.intro hcl hc8))
      dsimp only at x0 x1 x2 x3 hcv
      obtain ⟨CA, cc, cg, rfl, _⟩ := id hcv
      have HCV := Lib.hid (hcv.keep HO3.out.kept (by simp))
      have HX0 := Lib.hid (And.intro x0 (And.intro y3 (Nat.lt_of_lt_of_le hgl HO3.out.kept.size)))
      clear hcv ha hok hcl hc8 hBi hcok
      go_upto_region 32 with (first
        | (go_at_call 19; refine (bytesConfD_any F ⟨an, af, al⟩ _ _ HCV.out HK.out.1).mono ?_; rintro e wb ⟨u, G, rfl, ub, un, uk⟩; obtain ⟨Ab, cbb, gb, rfl, _, _, sb, mb⟩ := ub; have QB := Lib.hid (And.intro sb (And.intro (un gb (mb (cfB_ne _))) uk)); clear sb mb un uk))
      have z0 := (QB.out.2.2.cell (p := ⟨g, _, none⟩) HX0.out.2.2 (by simp)).trans HX0.out.1
      have z3 := (PA.out _ (HO3.out.kept.then QB.out.2.2 (by simp))).d3
      have HA := Lib.hid (HO3.out.apart QB.out.2.2 gb QB.out.2.1.1)
      clear x0 x1 x2 x3 y3
      go_wp2_with (first
        | (go_at_call 54; (with_reducible refine (HA.out.count ab (by omega) (by omega) (by omega) QB.out.2.1.2).mono ?_); rintro e w5 ⟨rfl, o5, s5⟩; have O5 := Lib.hid (And.intro o5 (s5 Ab _ QB.out.1)); clear o5 s5)
        | (go_at_call 58; (with_reducible refine (O5.out.1.text Ab _ cbb (cfB ⟨an, af, al⟩) rfl O5.out.2 (by rw [List.length_append]; have := HK.out; omega) (by have := HK.out; omega)).mono ?_); rintro e w6 ⟨rfl, o6⟩; have O6 := Lib.hid o6; clear o6))
      go_roundw
      case rel => exact ⟨i + 1, by omega, rfl, by go_num, by rw [HT.out, ← List.append_assoc, HBi.out]; unfold vtB; simpa only [List.append_assoc] using O6.out⟩
      case measure => simp [intOf]; omega
    · obtain rfl : i = L := by omega
      have h9 : wOk2 w2.drew wr q (pk8 p f) := by
        have := HO3.out
        rw [show p.votes.take i = p.votes by rw [← HL.out, List.take_length], HB8.out] at this
        exact this
      have P9 := Lib.hid h9
      clear h9
      go_upto_if 127 with fail
      have H9 := P9
      clear P9
      go_cut [6] (fun v6 wx => v6 = .pointer (some ⟨q, 0, none⟩) ∧ wOk2 w2.drew wx q (pk9 p f))
      case first =>
       by_cases hb : bitA f 256 = 0
       · have hbb : (p.kind == 6) = false := by rw [HBT.out.2.2.2.2.2.2.2.2]; simp [hb]
         have E := Lib.hid (aI_off (pk8 p f) (cb p.bytes.length ++ p.bytes) hb)
         clear hb
         go_wp2_with fail
         go_meet
         exact ⟨rfl, by rw [show pk9 p f = _ from E.out]; exact H9.out⟩
       · have hbb : (p.kind == 6) = true := by rw [HBT.out.2.2.2.2.2.2.2.2]; simp [hb]
         have E := Lib.hid (aI_on (pk8 p f) (cb p.bytes.length ++ p.bytes) hb)
         have y := (PA.out _ H9.out.kept).d4
         have HB4 : Hid (seen w2.drew A4 g4 p.bytes) := Lib.hid (HS4.out.keep KD.out (by simp))
         go_wp2_with (first
           | (go_at_call 58; refine (H9.out.text A4 g4 _ c4 p.bytes rfl HB4.out (by have := HLS.out; omega) (by have := HF.out.2.2.2.2.2.2.2.1; omega)).mono ?_; rintro e wx ⟨rfl, ox⟩))
         go_meet
         exact ⟨rfl, by rw [show pk9 p f = _ from E.out]; rw [← List.append_assoc]; exact ox⟩
      obtain ⟨rfl, ho⟩ := hcut
      have P10 := Lib.hid ho
      clear ho
      have HE := Lib.hid (show pkB p = pk9 p f by unfold pkB; rw [HFF.out])
      have hll : (pk9 p f).length ≤ 1000000000 := by have := HLS.out; omega
      have HLL := Lib.hid hll
      clear hll
      go_wp2_with (first
        | (go_at_call 60; refine (P10.out.bytes HLL.out).mono ?_; rintro e vz ⟨u, G, rfl, ub, un, uk⟩; have OZ := Lib.hid (And.intro ub (And.intro un uk)); clear ub un uk))
      go_ret2
      exact ⟨_, G, rfl, by rw [HE.out]; exact OZ.out.1, fun y hy => ⟨by have h1 := (OZ.out.2.1 y hy).1; have h2 := KD.out.size; omega, (OZ.out.2.1 y hy).2⟩, KD.out.then OZ.out.2.2 (by simp)⟩
end Go.Proofs.YthfdkonhjpdflaaGreatDoor
end
