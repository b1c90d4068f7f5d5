/-
  PACK, 21: the bytes of requests and answers.
-/
import Derived.Test.YthfdkonhjpdflaaGreatDoorPkD
namespace Go.Proofs.YthfdkonhjpdflaaGreatDoor
open Go.RowKit
set_option linter.unusedVariables false
set_option maxRecDepth 100000
set_option linter.unusedSimpArgs false
theorem rowAt.cell' {w : World} {g h : Nat} {t : TypeId} {cs : Array Value} (r : rowAt w g t cs) (e : g = h) (i : Nat) : w.cell? ⟨h, i, none⟩ = cs[i]? := by subst e; exact r.cell i

set_option maxHeartbeats 4000000 in
theorem bytesReq_no (F : List Nat) (r : RQ) (ev : Value) (w : World) (h : rqV w F r ev) (hok : r.ok = false) :
    Calls Tryz.prog 14 #[.agg (rqL r ev).toArray] w fun e w' => e = .returned (.tuple #[.slice none 0 0, .int .i64 2]) ∧ keepBut [] w w' := by
  have hsz : (rqL r ev).length = 37 := rqL_len h.1
  have k1 := (keepBut.refl [] w).alloc (.cells (rqL r ev).toArray 26)
  have r1 := rowAt.new w 26 (rqL r ev).toArray
  obtain ⟨w1, hw1⟩ : ∃ w1, w.alloc (.cells (rqL r ev).toArray 26) = w1 := ⟨_, rfl⟩
  rw [hw1] at k1 r1
  have h1 : rqV w1 F r ev := ⟨h.1, h.2.keep k1 (by simp)⟩
  have hI : (Tryz.prog.info? 26).map (·.size) = some (rqL r ev).length := by rw [hsz]; exact info_rq
  have HS := Lib.hid (And.intro r1.rangeAll (And.intro hI (And.intro k1 h1)))
  have HW := Lib.hid hw1
  clear hsz k1 r1 hw1 h1 hI h
  go_enter Tryz.func14, Tryz.ntmps14
  go_upto_region 1 with (with_reducible refine wpList_box_agg _ rfl 26 (.tmp 0) rfl _ rfl ?_)
  rw [HW.out]
  go_upto_region 2 with (first
    | (refine wpList_load_mid rfl 26 (.tmp 1) rfl w.heap.size 0 rfl (rqL r ev) _ HS.out.1 Tryz.underlying26 rfl HS.out.2.1 ?_)
    | (go_at_call 20; refine (checkReq_any F r ev _ HS.out.2.2.2).mono ?_; rintro e w2 ⟨rfl, kk⟩; rw [hok]; have K2 := Lib.hid (HS.out.2.2.1.then kk (by simp)); clear kk))
  go_wp2_with fail
  go_ret2
  exact ⟨rfl, K2.out⟩
set_option maxHeartbeats 8000000 in
theorem bytesReq_any (F : List Nat) (r : RQ) (ev : Value) (w : World) (h : rqV w F r ev) (hok : r.ok = true) :
    Calls Tryz.prog 14 #[.agg (rqL r ev).toArray] w (outPost w (reqB r)) := by
  have hsz : (rqL r ev).length = 37 := rqL_len h.1
  have hf := r.ok_facts hok
  have hnl := h.1
  have k1 := (keepBut.refl [] w).alloc (.cells (rqL r ev).toArray 26)
  have r1 := rowAt.new w 26 (rqL r ev).toArray
  obtain ⟨w1, hw1⟩ : ∃ w1, w.alloc (.cells (rqL r ev).toArray 26) = w1 := ⟨_, rfl⟩
  rw [hw1] at k1 r1
  have h1 : rqV w1 F r ev := ⟨h.1, h.2.keep k1 (by simp)⟩
  have hI : (Tryz.prog.info? 26).map (·.size) = some (rqL r ev).length := by rw [hsz]; exact info_rq
  have HS := Lib.hid (And.intro r1.rangeAll (And.intro hI (And.intro k1 h1)))
  have HW := Lib.hid hw1
  have HR1 := Lib.hid r1
  clear hsz k1 r1 hw1 h1 hI
  obtain ⟨_, A, c, g, rfl, _, _, hsn, _⟩ := h
  have HF := Lib.hid hf
  have HN := Lib.hid hnl
  have HSN := Lib.hid hsn
  clear hf hnl hsn
  go_enter Tryz.func14, Tryz.ntmps14
  go_upto_region 1 with (with_reducible refine wpList_box_agg _ rfl 26 (.tmp 0) rfl _ rfl ?_)
  rw [HW.out]
  go_upto_region 2 with (first
    | (refine wpList_load_mid rfl 26 (.tmp 1) rfl w.heap.size 0 rfl (rqL r _) _ HS.out.1 Tryz.underlying26 rfl HS.out.2.1 ?_)
    | (go_at_call 20; refine (checkReq_any F r _ _ HS.out.2.2.2).mono ?_; rintro e w2 ⟨rfl, kk⟩; rw [hok]; have r2 := kk.row HR1.out (by simp); have K2 := Lib.hid (HS.out.2.2.1.then kk (by simp)); clear kk))
  obtain ⟨tb, htb⟩ : ∃ tb, w.heap.size = tb := ⟨_, rfl⟩
  have hsn2 : seen w2 A g r.env := HSN.out.keep K2.out (by simp)
  have hsnn : seen w2.drew (some ⟨tb, 4, none⟩) tb r.name := fun hne => ⟨4, rfl, by rw [← htb]; exact r2.lt, fun j b hb => by
    refine (r2.cell' htb (4 + j)).trans ?_
    exact rqL_name r _ j (bv b) (by unfold nameL; rw [List.getElem?_map, hb]; rfl)⟩
  rw [htb] at r2 ⊢
  have z0 : w2.drew.cell? ⟨tb, 0, none⟩ = some (.int .i64 r.client) := r2.cell 0
  have z1 : w2.drew.cell? ⟨tb, 1, none⟩ = some (.int .i64 r.num) := r2.cell 1
  have z2 : w2.drew.cell? ⟨tb, 2, none⟩ = some (.int .i64 r.kind) := r2.cell 2
  have z3 : w2.drew.cell? ⟨tb, 3, none⟩ = some (.int .i64 r.version) := r2.cell 3
  have ze : w2.drew.cell? ⟨tb, 36, none⟩ = some (.slice A r.env.length c) := (r2.cell 36).trans (rqL_env HN.out)
  have Z : Hid (∀ w', keepBut [] w2.drew w' → (w'.cell? ⟨tb, 0, none⟩ = some (.int .i64 r.client) ∧ w'.cell? ⟨tb, 1, none⟩ = some (.int .i64 r.num) ∧ w'.cell? ⟨tb, 2, none⟩ = some (.int .i64 r.kind) ∧ w'.cell? ⟨tb, 3, none⟩ = some (.int .i64 r.version) ∧ w'.cell? ⟨tb, 36, none⟩ = some (.slice A r.env.length c))) := Lib.hid (fun w' k => ⟨(k.cell (p := ⟨tb, 0, none⟩) r2.lt (by simp)).trans z0, (k.cell (p := ⟨tb, 1, none⟩) r2.lt (by simp)).trans z1, (k.cell (p := ⟨tb, 2, none⟩) r2.lt (by simp)).trans z2, (k.cell (p := ⟨tb, 3, none⟩) r2.lt (by simp)).trans z3, (k.cell (p := ⟨tb, 36, none⟩) r2.lt (by simp)).trans ze⟩)
  have Z0 := Z.out _ (keepBut.refl [] w2.drew)
  have HSE := Lib.hid (And.intro (show seen w2.drew A g r.env from hsn2) hsnn)
  have KD := Lib.hid (K2.out.then ((keepBut.refl [] w2).drew) (by simp))
  clear hsn2 hsnn r2 z0 z1 z2 z3 ze
  have HC := Lib.hid (And.intro (cb8 (n := r.num) (by have := HF.out; omega)) (And.intro (cb8 (n := r.version) (by have := HF.out; omega)) (cb8 (n := (r.env.length : Int)) (by have := HF.out; omega))))
  have HL1 : Hid (([] : List UInt8).length ≤ 1000000000) := Lib.hid (by have h1 := HC.out; have h2 := HF.out; have h3 := HN.out; simp only [List.length_append, be1, List.length_nil, Int.toNat_natCast] at h1 ⊢; omega)
  have HL2 : Hid ((([] : List UInt8) ++ beBytes 1 r.client.toNat).length ≤ 1000000000) := Lib.hid (by have h1 := HC.out; have h2 := HF.out; have h3 := HN.out; simp only [List.length_append, be1, List.length_nil, Int.toNat_natCast] at h1 ⊢; omega)
  have HL3 : Hid (((([] : List UInt8) ++ beBytes 1 r.client.toNat) ++ cb r.num.toNat).length ≤ 1000000000) := Lib.hid (by have h1 := HC.out; have h2 := HF.out; have h3 := HN.out; simp only [List.length_append, be1, List.length_nil, Int.toNat_natCast] at h1 ⊢; omega)
  have HL4 : Hid ((((([] : List UInt8) ++ beBytes 1 r.client.toNat) ++ cb r.num.toNat) ++ beBytes 1 r.kind.toNat).length ≤ 1000000000) := Lib.hid (by have h1 := HC.out; have h2 := HF.out; have h3 := HN.out; simp only [List.length_append, be1, List.length_nil, Int.toNat_natCast] at h1 ⊢; omega)
  have HL5 : Hid (((((([] : List UInt8) ++ beBytes 1 r.client.toNat) ++ cb r.num.toNat) ++ beBytes 1 r.kind.toNat) ++ cb r.version.toNat).length ≤ 1000000000) := Lib.hid (by have h1 := HC.out; have h2 := HF.out; have h3 := HN.out; simp only [List.length_append, be1, List.length_nil, Int.toNat_natCast] at h1 ⊢; omega)
  have HL6 : Hid ((((((([] : List UInt8) ++ beBytes 1 r.client.toNat) ++ cb r.num.toNat) ++ beBytes 1 r.kind.toNat) ++ cb r.version.toNat) ++ r.name).length ≤ 1000000000) := Lib.hid (by have h1 := HC.out; have h2 := HF.out; have h3 := HN.out; simp only [List.length_append, be1, List.length_nil, Int.toNat_natCast] at h1 ⊢; omega)
  have HL7 : Hid ((((((((([] : List UInt8) ++ beBytes 1 r.client.toNat) ++ cb r.num.toNat) ++ beBytes 1 r.kind.toNat) ++ cb r.version.toNat) ++ r.name) ++ cb r.env.length) ++ r.env).length ≤ 1000000000) := Lib.hid (by have h1 := HC.out; have h2 := HF.out; have h3 := HN.out; simp only [List.length_append, be1, List.length_nil, Int.toNat_natCast] at h1 ⊢; omega)
  go_upto_region 4 with fail
  go_region_held3 (fun w' => w'.cell? ⟨tb, 0, none⟩ = some (.int .i64 r.client) ∧ w'.cell? ⟨tb, 1, none⟩ = some (.int .i64 r.num) ∧ w'.cell? ⟨tb, 2, none⟩ = some (.int .i64 r.kind) ∧ w'.cell? ⟨tb, 3, none⟩ = some (.int .i64 r.version) ∧ w'.cell? ⟨tb, 36, none⟩ = some (.slice A r.env.length c)) (first | exact Z0 | exact Y0 | exact Y1 | exact Y2 | exact Y3 | exact Y4 | exact Y5 | exact Y6 | exact YZ)
    (first
      | (go_at_call 41; refine wOk.start.mono ?_; rintro e v0 ⟨p, rfl, o0⟩; have O0 := Lib.hid o0; have Y0 := Z.out _ o0.kept; clear o0)
      | (go_at_call 42; (with_reducible refine (O0.out.num r.client (by have := HF.out; omega) (by have := HF.out; omega) HL1.out).mono ?_); rintro e v1 ⟨rfl, o1⟩; have O1 := Lib.hid o1; have Y1 := Z.out _ o1.kept; clear o1)
      | (go_at_call 43; (with_reducible refine (O1.out.count r.num (by have := HF.out; omega) (by have := HF.out; omega) HL2.out).mono ?_); rintro e v2 ⟨rfl, o2⟩; have O2 := Lib.hid o2; have Y2 := Z.out _ o2.kept; clear o2)
      | (go_at_call 42; (with_reducible refine (O2.out.num r.kind (by have := HF.out; omega) (by have := HF.out; omega) HL3.out).mono ?_); rintro e v3 ⟨rfl, o3⟩; have O3 := Lib.hid o3; have Y3 := Z.out _ o3.kept; clear o3)
      | (go_at_call 43; (with_reducible refine (O3.out.count r.version (by have := HF.out; omega) (by have := HF.out; omega) HL4.out).mono ?_); rintro e v4 ⟨rfl, o4⟩; have O4 := Lib.hid o4; have Y4 := Z.out _ o4.kept; clear o4)
      | (go_at_call 79; (with_reducible refine (O4.out.raw _ tb 32 32 r.name HN.out (HSE.out.2.keep O4.out.kept (by simp)) HL5.out (by rw [HN.out]; omega)).mono ?_); rintro e v5 ⟨rfl, o5⟩; have O5 := Lib.hid o5; have Y5 := Z.out _ o5.kept; clear o5)
      | (go_at_call 49; (with_reducible refine (O5.out.text A g r.env.length c r.env rfl HSE.out.1 HL6.out (by have := HF.out; omega)).mono ?_); rintro e v6 ⟨rfl, o6⟩; have O6 := Lib.hid o6; have Y6 := Z.out _ o6.kept; clear o6)
      | (go_at_call 50; (with_reducible refine (O6.out.bytes HL7.out).mono ?_); rintro e vz ⟨u, G, rfl, ub, un, uk⟩; have OZ := Lib.hid (And.intro ub (And.intro un uk)); have YZ := Z.out _ uk; clear ub un uk))
  go_wp2_with fail
  go_ret2
  exact ⟨_, G, rfl, OZ.out.1, fun y hy => ⟨by have h1 := (OZ.out.2.1 y hy).1; have h2 := KD.out.size; omega, (OZ.out.2.1 y hy).2⟩, KD.out.then OZ.out.2.2 (by simp)⟩

set_option maxHeartbeats 4000000 in
theorem bytesAns_no (F : List Nat) (r : AN) (ev : Value) (w : World) (h : anV w F r ev) (hok : r.ok = false) :
    Calls Tryz.prog 16 #[.agg (anL r ev).toArray] w fun e w' => e = .returned (.tuple #[.slice none 0 0, .int .i64 2]) ∧ keepBut [] w w' := by
  have hsz : (anL r ev).length = 38 := anL_len h.1
  have k1 := (keepBut.refl [] w).alloc (.cells (anL r ev).toArray 28)
  have r1 := rowAt.new w 28 (anL r ev).toArray
  obtain ⟨w1, hw1⟩ : ∃ w1, w.alloc (.cells (anL r ev).toArray 28) = w1 := ⟨_, rfl⟩
  rw [hw1] at k1 r1
  have h1 : anV w1 F r ev := ⟨h.1, h.2.keep k1 (by simp)⟩
  have hI : (Tryz.prog.info? 28).map (·.size) = some (anL r ev).length := by rw [hsz]; exact info_an
  have HS := Lib.hid (And.intro r1.rangeAll (And.intro hI (And.intro k1 h1)))
  have HW := Lib.hid hw1
  clear hsz k1 r1 hw1 h1 hI h
  go_enter Tryz.func16, Tryz.ntmps16
  go_upto_region 1 with (with_reducible refine wpList_box_agg _ rfl 28 (.tmp 0) rfl _ rfl ?_)
  rw [HW.out]
  go_upto_region 2 with (first
    | (refine wpList_load_mid rfl 28 (.tmp 1) rfl w.heap.size 0 rfl (anL r ev) _ HS.out.1 Tryz.underlying28 rfl HS.out.2.1 ?_)
    | (go_at_call 21; refine (checkAns_any F r ev _ HS.out.2.2.2).mono ?_; rintro e w2 ⟨rfl, kk⟩; rw [hok]; have K2 := Lib.hid (HS.out.2.2.1.then kk (by simp)); clear kk))
  go_wp2_with fail
  go_ret2
  exact ⟨rfl, K2.out⟩
set_option maxHeartbeats 8000000 in
theorem bytesAns_any (F : List Nat) (r : AN) (ev : Value) (w : World) (h : anV w F r ev) (hok : r.ok = true) :
    Calls Tryz.prog 16 #[.agg (anL r ev).toArray] w (outPost w (ansB r)) := by
  have hsz : (anL r ev).length = 38 := anL_len h.1
  have hf := r.ok_facts hok
  have hnl := h.1
  have k1 := (keepBut.refl [] w).alloc (.cells (anL r ev).toArray 28)
  have r1 := rowAt.new w 28 (anL r ev).toArray
  obtain ⟨w1, hw1⟩ : ∃ w1, w.alloc (.cells (anL r ev).toArray 28) = w1 := ⟨_, rfl⟩
  rw [hw1] at k1 r1
  have h1 : anV w1 F r ev := ⟨h.1, h.2.keep k1 (by simp)⟩
  have hI : (Tryz.prog.info? 28).map (·.size) = some (anL r ev).length := by rw [hsz]; exact info_an
  have HS := Lib.hid (And.intro r1.rangeAll (And.intro hI (And.intro k1 h1)))
  have HW := Lib.hid hw1
  have HR1 := Lib.hid r1
  clear hsz k1 r1 hw1 h1 hI
  obtain ⟨_, A, c, g, rfl, _, _, hsn, _⟩ := h
  have HF := Lib.hid hf
  have HN := Lib.hid hnl
  have HSN := Lib.hid hsn
  clear hf hnl hsn
  go_enter Tryz.func16, Tryz.ntmps16
  go_upto_region 1 with (with_reducible refine wpList_box_agg _ rfl 28 (.tmp 0) rfl _ rfl ?_)
  rw [HW.out]
  go_upto_region 2 with (first
    | (refine wpList_load_mid rfl 28 (.tmp 1) rfl w.heap.size 0 rfl (anL r _) _ HS.out.1 Tryz.underlying28 rfl HS.out.2.1 ?_)
    | (go_at_call 21; refine (checkAns_any F r _ _ HS.out.2.2.2).mono ?_; rintro e w2 ⟨rfl, kk⟩; rw [hok]; have r2 := kk.row HR1.out (by simp); have K2 := Lib.hid (HS.out.2.2.1.then kk (by simp)); clear kk))
  obtain ⟨tb, htb⟩ : ∃ tb, w.heap.size = tb := ⟨_, rfl⟩
  have hsn2 : seen w2 A g r.env := HSN.out.keep K2.out (by simp)
  have hsnn : seen w2.drew (some ⟨tb, 5, none⟩) tb r.name := fun hne => ⟨5, rfl, by rw [← htb]; exact r2.lt, fun j b hb => by
    refine (r2.cell' htb (5 + j)).trans ?_
    exact anL_name r _ j (bv b) (by unfold nameL; rw [List.getElem?_map, hb]; rfl)⟩
  rw [htb] at r2 ⊢
  have z0 : w2.drew.cell? ⟨tb, 0, none⟩ = some (.int .i64 r.client) := r2.cell 0
  have z1 : w2.drew.cell? ⟨tb, 1, none⟩ = some (.int .i64 r.num) := r2.cell 1
  have z2 : w2.drew.cell? ⟨tb, 2, none⟩ = some (.int .i64 r.code) := r2.cell 2
  have z3 : w2.drew.cell? ⟨tb, 3, none⟩ = some (.int .i64 r.version) := r2.cell 3
  have z4 : w2.drew.cell? ⟨tb, 4, none⟩ = some (.int .i64 r.epoch) := r2.cell 4
  have ze : w2.drew.cell? ⟨tb, 37, none⟩ = some (.slice A r.env.length c) := (r2.cell 37).trans (anL_env HN.out)
  have Z : Hid (∀ w', keepBut [] w2.drew w' → (w'.cell? ⟨tb, 0, none⟩ = some (.int .i64 r.client) ∧ w'.cell? ⟨tb, 1, none⟩ = some (.int .i64 r.num) ∧ w'.cell? ⟨tb, 2, none⟩ = some (.int .i64 r.code) ∧ w'.cell? ⟨tb, 3, none⟩ = some (.int .i64 r.version) ∧ w'.cell? ⟨tb, 4, none⟩ = some (.int .i64 r.epoch) ∧ w'.cell? ⟨tb, 37, none⟩ = some (.slice A r.env.length c))) := Lib.hid (fun w' k => ⟨(k.cell (p := ⟨tb, 0, none⟩) r2.lt (by simp)).trans z0, (k.cell (p := ⟨tb, 1, none⟩) r2.lt (by simp)).trans z1, (k.cell (p := ⟨tb, 2, none⟩) r2.lt (by simp)).trans z2, (k.cell (p := ⟨tb, 3, none⟩) r2.lt (by simp)).trans z3, (k.cell (p := ⟨tb, 4, none⟩) r2.lt (by simp)).trans z4, (k.cell (p := ⟨tb, 37, none⟩) r2.lt (by simp)).trans ze⟩)
  have Z0 := Z.out _ (keepBut.refl [] w2.drew)
  have HSE := Lib.hid (And.intro (show seen w2.drew A g r.env from hsn2) hsnn)
  have KD := Lib.hid (K2.out.then ((keepBut.refl [] w2).drew) (by simp))
  clear hsn2 hsnn r2 z0 z1 z2 z3 z4 ze
  have HC := Lib.hid (And.intro (cb8 (n := r.num) (by have := HF.out; omega)) (And.intro (cb8 (n := r.version) (by have := HF.out; omega)) (cb8 (n := (r.env.length : Int)) (by have := HF.out; omega))))
  have HL1 : Hid (([] : List UInt8).length ≤ 1000000000) := Lib.hid (by have h1 := HC.out; have h2 := HF.out; have h3 := HN.out; simp only [List.length_append, be1, List.length_nil, Int.toNat_natCast] at h1 ⊢; omega)
  have HL2 : Hid ((([] : List UInt8) ++ beBytes 1 r.client.toNat).length ≤ 1000000000) := Lib.hid (by have h1 := HC.out; have h2 := HF.out; have h3 := HN.out; simp only [List.length_append, be1, List.length_nil, Int.toNat_natCast] at h1 ⊢; omega)
  have HL3 : Hid (((([] : List UInt8) ++ beBytes 1 r.client.toNat) ++ cb r.num.toNat).length ≤ 1000000000) := Lib.hid (by have h1 := HC.out; have h2 := HF.out; have h3 := HN.out; simp only [List.length_append, be1, List.length_nil, Int.toNat_natCast] at h1 ⊢; omega)
  have HL4 : Hid ((((([] : List UInt8) ++ beBytes 1 r.client.toNat) ++ cb r.num.toNat) ++ beBytes 1 r.code.toNat).length ≤ 1000000000) := Lib.hid (by have h1 := HC.out; have h2 := HF.out; have h3 := HN.out; simp only [List.length_append, be1, List.length_nil, Int.toNat_natCast] at h1 ⊢; omega)
  have HL5 : Hid (((((([] : List UInt8) ++ beBytes 1 r.client.toNat) ++ cb r.num.toNat) ++ beBytes 1 r.code.toNat) ++ cb r.version.toNat).length ≤ 1000000000) := Lib.hid (by have h1 := HC.out; have h2 := HF.out; have h3 := HN.out; simp only [List.length_append, be1, List.length_nil, Int.toNat_natCast] at h1 ⊢; omega)
  have HL6 : Hid ((((((([] : List UInt8) ++ beBytes 1 r.client.toNat) ++ cb r.num.toNat) ++ beBytes 1 r.code.toNat) ++ cb r.version.toNat) ++ beBytes 1 r.epoch.toNat).length ≤ 1000000000) := Lib.hid (by have h1 := HC.out; have h2 := HF.out; have h3 := HN.out; simp only [List.length_append, be1, List.length_nil, Int.toNat_natCast] at h1 ⊢; omega)
  have HL7 : Hid (((((((([] : List UInt8) ++ beBytes 1 r.client.toNat) ++ cb r.num.toNat) ++ beBytes 1 r.code.toNat) ++ cb r.version.toNat) ++ beBytes 1 r.epoch.toNat) ++ r.name).length ≤ 1000000000) := Lib.hid (by have h1 := HC.out; have h2 := HF.out; have h3 := HN.out; simp only [List.length_append, be1, List.length_nil, Int.toNat_natCast] at h1 ⊢; omega)
  have HL8 : Hid (((((((((([] : List UInt8) ++ beBytes 1 r.client.toNat) ++ cb r.num.toNat) ++ beBytes 1 r.code.toNat) ++ cb r.version.toNat) ++ beBytes 1 r.epoch.toNat) ++ r.name) ++ cb r.env.length) ++ r.env).length ≤ 1000000000) := Lib.hid (by have h1 := HC.out; have h2 := HF.out; have h3 := HN.out; simp only [List.length_append, be1, List.length_nil, Int.toNat_natCast] at h1 ⊢; omega)
  go_upto_region 4 with fail
  go_region_held3 (fun w' => w'.cell? ⟨tb, 0, none⟩ = some (.int .i64 r.client) ∧ w'.cell? ⟨tb, 1, none⟩ = some (.int .i64 r.num) ∧ w'.cell? ⟨tb, 2, none⟩ = some (.int .i64 r.code) ∧ w'.cell? ⟨tb, 3, none⟩ = some (.int .i64 r.version) ∧ w'.cell? ⟨tb, 4, none⟩ = some (.int .i64 r.epoch) ∧ w'.cell? ⟨tb, 37, none⟩ = some (.slice A r.env.length c)) (first | exact Z0 | exact Y0 | exact Y1 | exact Y2 | exact Y3 | exact Y4 | exact Y5 | exact Y6 | exact Y7 | exact YZ)
    (first
      | (go_at_call 41; refine wOk.start.mono ?_; rintro e v0 ⟨p, rfl, o0⟩; have O0 := Lib.hid o0; have Y0 := Z.out _ o0.kept; clear o0)
      | (go_at_call 42; (with_reducible refine (O0.out.num r.client (by have := HF.out; omega) (by have := HF.out; omega) HL1.out).mono ?_); rintro e v1 ⟨rfl, o1⟩; have O1 := Lib.hid o1; have Y1 := Z.out _ o1.kept; clear o1)
      | (go_at_call 43; (with_reducible refine (O1.out.count r.num (by have := HF.out; omega) (by have := HF.out; omega) HL2.out).mono ?_); rintro e v2 ⟨rfl, o2⟩; have O2 := Lib.hid o2; have Y2 := Z.out _ o2.kept; clear o2)
      | (go_at_call 42; (with_reducible refine (O2.out.num r.code (by have := HF.out; omega) (by have := HF.out; omega) HL3.out).mono ?_); rintro e v3 ⟨rfl, o3⟩; have O3 := Lib.hid o3; have Y3 := Z.out _ o3.kept; clear o3)
      | (go_at_call 43; (with_reducible refine (O3.out.count r.version (by have := HF.out; omega) (by have := HF.out; omega) HL4.out).mono ?_); rintro e v4 ⟨rfl, o4⟩; have O4 := Lib.hid o4; have Y4 := Z.out _ o4.kept; clear o4)
      | (go_at_call 42; (with_reducible refine (O4.out.num r.epoch (by have := HF.out; omega) (by have := HF.out; omega) HL5.out).mono ?_); rintro e v5 ⟨rfl, o5⟩; have O5 := Lib.hid o5; have Y5 := Z.out _ o5.kept; clear o5)
      | (go_at_call 79; (with_reducible refine (O5.out.raw _ tb 32 32 r.name HN.out (HSE.out.2.keep O5.out.kept (by simp)) HL6.out (by rw [HN.out]; omega)).mono ?_); rintro e v6 ⟨rfl, o6⟩; have O6 := Lib.hid o6; have Y6 := Z.out _ o6.kept; clear o6)
      | (go_at_call 49; (with_reducible refine (O6.out.text A g r.env.length c r.env rfl HSE.out.1 HL7.out (by have := HF.out; omega)).mono ?_); rintro e v7 ⟨rfl, o7⟩; have O7 := Lib.hid o7; have Y7 := Z.out _ o7.kept; clear o7)
      | (go_at_call 50; (with_reducible refine (O7.out.bytes HL8.out).mono ?_); rintro e vz ⟨u, G, rfl, ub, un, uk⟩; have OZ := Lib.hid (And.intro ub (And.intro un uk)); have YZ := Z.out _ uk; clear ub un uk))
  go_wp2_with fail
  go_ret2
  exact ⟨_, G, rfl, OZ.out.1, fun y hy => ⟨by have h1 := (OZ.out.2.1 y hy).1; have h2 := KD.out.size; omega, (OZ.out.2.1 y hy).2⟩, KD.out.then OZ.out.2.2 (by simp)⟩
end Go.Proofs.YthfdkonhjpdflaaGreatDoor
