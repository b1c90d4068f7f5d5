/-
  PKE: Pk22, Pk23, Pk24, joined.
-/
import Derived.Test.YthfdkonhjpdflaaGreatDoorPk21
import Derived.Test.YthfdkonhjpdflaaGreatDoorPk16
section
namespace Go.Proofs.YthfdkonhjpdflaaGreatDoor
open Go.RowKit
set_option linter.unusedVariables false
set_option maxRecDepth 100000
set_option linter.unusedSimpArgs false

theorem chainB_mem : ∀ (l pre : List Int), chainB pre l = true → ∀ n ∈ l, 10 ≤ n ∧ n ≤ 13
  | [], _, _, n, hn => by simp at hn
  | a :: r, pre, h, n, hn => by
    unfold chainB at h
    rw [Bool.and_eq_true, Bool.and_eq_true, inP_iff] at h
    rcases List.mem_cons.1 hn with rfl | hn
    · exact h.1
    · exact chainB_mem r _ h.2.2 n hn
theorem CF.ok_facts {c : CF} (h : c.ok = true) : (0 ≤ c.num ∧ c.num ≤ 9007199254740991) ∧ (1 ≤ c.chain.length ∧ c.chain.length ≤ 4) ∧ (1 ≤ c.full ∧ c.full ≤ c.chain.length) ∧ ∀ n ∈ c.chain, 10 ≤ n ∧ n ≤ 13 := by
  unfold CF.ok at h
  simp only [Bool.and_eq_true, inP_iff, decide_eq_true_eq] at h
  exact ⟨h.1, ⟨h.2.1, h.2.2.1⟩, h.2.2.2.1, chainB_mem _ _ h.2.2.2.2⟩
theorem chB_append : ∀ (l m : List Int), chB (l ++ m) = chB l ++ chB m
  | [], m => rfl
  | a :: r, m => by rw [List.cons_append, chB, chB, chB_append r m, List.append_assoc]
theorem chB_take {l : List Int} {i : Nat} {a : Int} (h : l[i]? = some a) : chB (l.take (i + 1)) = chB (l.take i) ++ beBytes 1 a.toNat := by
  rw [List.take_add_one, h, chB_append]
  simp [chB]
theorem chB_len : ∀ l : List Int, (chB l).length = l.length
  | [] => rfl
  | a :: r => by simp only [chB, List.length_append, be1, chB_len r, List.length_cons]; omega
set_option maxHeartbeats 4000000 in
theorem bytesConf_no (F : List Nat) (r : CF) (cv : Value) (w : World) (h : intsV w F cv r.chain) (hok : r.ok = false) :
    Calls Tryz.prog 18 #[.agg (cfL r cv).toArray] w fun e w' => e = .returned (.tuple #[.slice none 0 0, .int .i64 2]) ∧ keepBut [] w w' := by
  have k1 := (keepBut.refl [] w).alloc (.cells (cfL r cv).toArray 31)
  have r1 := rowAt.new w 31 (cfL r cv).toArray
  obtain ⟨w1, hw1⟩ : ∃ w1, w.alloc (.cells (cfL r cv).toArray 31) = w1 := ⟨_, rfl⟩
  rw [hw1] at k1 r1
  have HS := Lib.hid (And.intro r1.rangeAll (And.intro k1 (h.keep k1 (by simp))))
  have HW := Lib.hid hw1
  clear k1 r1 hw1 h
  go_enter Tryz.func18, Tryz.ntmps18
  go_upto_region 1 with (with_reducible refine wpList_box_agg _ rfl 31 (.tmp 0) rfl _ rfl ?_)
  rw [HW.out]
  go_upto_region 2 with (first
    | (refine wpList_load_mid rfl 31 (.tmp 1) rfl w.heap.size 0 rfl (cfL r cv) _ HS.out.1 Tryz.underlying31 rfl info_cf ?_)
    | (go_at_call 22; refine (checkConf_any F r cv _ HS.out.2.2).mono ?_; rintro e w2 ⟨rfl, kk⟩; rw [hok]; have K2 := Lib.hid (HS.out.2.1.then kk (by simp)); clear kk))
  go_wp2_with fail
  go_ret2
  exact ⟨rfl, K2.out⟩
set_option maxHeartbeats 8000000 in
theorem bytesConf_any (F : List Nat) (r : CF) (cv : Value) (w : World) (h : intsV w F cv r.chain) (hok : r.ok = true) :
    Calls Tryz.prog 18 #[.agg (cfL r cv).toArray] w (outPost w (cfB r)) := by
  have hf := r.ok_facts hok
  have k1 := (keepBut.refl [] w).alloc (.cells (cfL r cv).toArray 31)
  have r1 := rowAt.new w 31 (cfL r cv).toArray
  obtain ⟨w1, hw1⟩ : ∃ w1, w.alloc (.cells (cfL r cv).toArray 31) = w1 := ⟨_, rfl⟩
  rw [hw1] at k1 r1
  have HS := Lib.hid (And.intro r1.rangeAll (And.intro k1 (h.keep k1 (by simp))))
  have HW := Lib.hid hw1
  have HR1 := Lib.hid r1
  obtain ⟨A, c, g, rfl, _, hcm, hA, _⟩ := h
  have HF := Lib.hid hf
  have HA := Lib.hid hA
  clear k1 r1 hw1 hf hA
  go_enter Tryz.func18, Tryz.ntmps18
  go_upto_region 1 with (with_reducible refine wpList_box_agg _ rfl 31 (.tmp 0) rfl _ rfl ?_)
  rw [HW.out]
  go_upto_region 2 with (first
    | (refine wpList_load_mid rfl 31 (.tmp 1) rfl w.heap.size 0 rfl (cfL r (.slice A r.chain.length c)) _ HS.out.1 Tryz.underlying31 rfl info_cf ?_)
    | (go_at_call 22; refine (checkConf_any F r _ _ HS.out.2.2).mono ?_; rintro e w2 ⟨rfl, kk⟩; rw [hok]; have r2 := kk.row HR1.out (by simp); have K2 := Lib.hid (HS.out.2.1.then kk (by simp)); clear kk))
  obtain ⟨L, hL⟩ : ∃ L, r.chain.length = L := ⟨_, rfl⟩
  obtain ⟨tb, htb⟩ : ∃ tb, w.heap.size = tb := ⟨_, rfl⟩
  rw [htb] at r2 ⊢
  rw [hL] at r2 ⊢
  have hf4 : L ≤ 4 := by have := HF.out.2.1; omega
  have hf1 : 1 ≤ L := by have := HF.out.2.1; omega
  have z0 : w2.drew.cell? ⟨tb, 0, none⟩ = some (.int .i64 r.num) := r2.cell 0
  have z1 : w2.drew.cell? ⟨tb, 1, none⟩ = some (.int .i64 r.full) := r2.cell 1
  have z2 : w2.drew.cell? ⟨tb, 2, none⟩ = some (.slice A L c) := (r2.cell 2).trans (by rw [← hL]; rfl)
  have Z : Hid (∀ w', keepBut [] w2.drew w' → (w'.cell? ⟨tb, 0, none⟩ = some (.int .i64 r.num) ∧ w'.cell? ⟨tb, 1, none⟩ = some (.int .i64 r.full) ∧ w'.cell? ⟨tb, 2, none⟩ = some (.slice A L c))) := Lib.hid (fun w' k => ⟨(k.cell (p := ⟨tb, 0, none⟩) r2.lt (by simp)).trans z0, (k.cell (p := ⟨tb, 1, none⟩) r2.lt (by simp)).trans z1, (k.cell (p := ⟨tb, 2, none⟩) r2.lt (by simp)).trans z2⟩)
  have Z0 := Z.out _ (keepBut.refl [] w2.drew)
  have KD := Lib.hid (K2.out.then ((keepBut.refl [] w2).drew) (by simp))
  have HL := Lib.hid hL
  clear r2 z0 z1 z2 hL
  have HC := Lib.hid (cb8 (n := r.num) (by have := HF.out.1; omega))
  have HL1 : Hid (([] : List UInt8).length ≤ 1000000000) := Lib.hid (by simp)
  have HL2 : Hid ((([] : List UInt8) ++ cb r.num.toNat).length ≤ 1000000000) := Lib.hid (by have := HC.out; simp only [List.length_append, List.length_nil]; omega)
  have HL3 : Hid (((([] : List UInt8) ++ cb r.num.toNat) ++ beBytes 1 r.full.toNat).length ≤ 1000000000) := Lib.hid (by have := HC.out; simp only [List.length_append, List.length_nil, be1]; omega)
  go_upto_region 4 with fail
  go_region_held3 (fun w' => w'.cell? ⟨tb, 0, none⟩ = some (.int .i64 r.num) ∧ w'.cell? ⟨tb, 1, none⟩ = some (.int .i64 r.full) ∧ w'.cell? ⟨tb, 2, none⟩ = some (.slice A L c)) (first | exact Z0 | exact Y0 | exact Y1 | exact Y2 | exact Y3)
    (first
      | (go_at_call 41; refine wOk.start.mono ?_; rintro e v0 ⟨p, rfl, o0⟩; have O0 := Lib.hid o0; have Y0 := Z.out _ o0.kept; clear o0)
      | (go_at_call 43; (with_reducible refine (O0.out.count r.num (by have := HF.out.1; omega) (by have := HF.out.1; omega) HL1.out).mono ?_); rintro e v1 ⟨rfl, o1⟩; have O1 := Lib.hid o1; have Y1 := Z.out _ o1.kept; clear o1)
      | (go_at_call 42; (with_reducible refine (O1.out.num r.full (by have := HF.out.2.2.1; omega) (by have := HF.out.2.1; have := HF.out.2.2.1; omega) HL2.out).mono ?_); rintro e v2 ⟨rfl, o2⟩; have O2 := Lib.hid o2; have Y2 := Z.out _ o2.kept; clear o2)
      | (go_at_call 42; (with_reducible refine (O2.out.num (L : Int) (by omega) (by omega) HL3.out).mono ?_); rintro e v3 ⟨rfl, o3⟩; have O3 := Lib.hid o3; have Y3 := Z.out _ o3.kept; clear o3))
  obtain ⟨B, hB⟩ : ∃ B, ((([] : List UInt8) ++ cb r.num.toNat) ++ beBytes 1 r.full.toNat) ++ beBytes 1 (L : Int).toNat = B := ⟨_, rfl⟩
  have hBl : B.length ≤ 10 := by have := HC.out; rw [← hB]; simp only [List.length_append, List.length_nil, be1]; omega
  have HB := Lib.hid (show cfB r = B ++ chB r.chain by rw [← hB]; unfold cfB; rw [HL.out, Int.toNat_natCast])
  have O4 : Hid (wOk w2.drew v3 p B) := by rw [← hB]; exact O3
  clear hB O3 Y0 Y1 Y2 Z0
  obtain ⟨x0, x1, x2⟩ := Y3
  go_upto_region 6 with fail
  go_loopw [7, 27] (fun _ v27 wx => ∃ i : Nat, i ≤ L ∧ v27 = .int .i64 (i : Int) ∧ wOk w2.drew wx p (B ++ chB (r.chain.take i))) (fun _ v27 _ => L - (intOf v27).toNat)
  case atStart => exact ⟨0, by omega, rfl, by simpa [chB] using O4.out⟩
  case round =>
    obtain ⟨i, hi, rfl, ho⟩ := hrel
    have HO := Lib.hid ho
    clear ho
    by_cases hlt : i < L
    · have hlt' : (i : Int) < (L : Int) := by omega
      have hn0 : (0 : Int) ≤ (i : Int) := by omega
      have hw1 : IntKind.i64.wrap ((i : Int) + 1) = (i : Int) + 1 := wraps_i64 _ (by omega) (by omega)
      obtain ⟨a, ha⟩ : ∃ a, r.chain[i]? = some a := ⟨_, List.getElem?_eq_getElem (by have := HL.out; omega)⟩
      obtain ⟨o, rfl, hgl, hcA⟩ := HA.out.2 (by have := HL.out; omega)
      have hkk := KD.out.then HO.out.kept (by simp)
      have y0 : wr.cell? ⟨g, o + i, none⟩ = some (.int .i64 a) := (hkk.cell (p := ⟨g, o + i, none⟩) hgl (by simp)).trans (hcA i (.int .i64 a) (by rw [List.getElem?_map, ha]; rfl))
      have ham := HF.out.2.2.2 a (List.mem_of_getElem? ha)
      have HT := Lib.hid (chB_take ha)
      have hll : (B ++ chB (r.chain.take i)).length ≤ 1000000000 := by rw [List.length_append, chB_len, List.length_take]; omega
      have HLL := Lib.hid hll
      clear ha hcA hkk hll
      go_wp2_with (first
        | (go_at_call 42; (with_reducible refine (HO.out.num a (by omega) (by omega) HLL.out).mono ?_); rintro e v4 ⟨rfl, o4⟩; have HO4 := Lib.hid o4; clear o4))
      go_roundw
      case rel => exact ⟨i + 1, by omega, by go_num, by rw [HT.out, ← List.append_assoc]; exact HO4.out⟩
      case measure => simp [intOf]; omega
    · obtain rfl : i = L := by omega
      have HE := Lib.hid (show B ++ chB (r.chain.take i) = cfB r by rw [HB.out, ← HL.out, List.take_length])
      rw [HE.out] at HO
      have hll : (cfB r).length ≤ 1000000000 := by rw [HB.out, List.length_append, chB_len, HL.out]; omega
      have HLL := Lib.hid hll
      clear hll
      go_wp2_with (first
        | (go_at_call 50; (with_reducible refine (HO.out.bytes HLL.out).mono ?_); rintro e vz ⟨u, G, rfl, ub, un, uk⟩; have OZ := Lib.hid (And.intro ub (And.intro un uk)); clear ub un uk))
      go_ret2
      exact ⟨_, G, rfl, OZ.out.1, fun y hy => ⟨by have h1 := (OZ.out.2.1 y hy).1; have h2 := KD.out.size; omega, (OZ.out.2.1 y hy).2⟩, KD.out.then OZ.out.2.2 (by simp)⟩
end Go.Proofs.YthfdkonhjpdflaaGreatDoor
end

section
namespace Go.Proofs.YthfdkonhjpdflaaGreatDoor
open Go.RowKit
set_option linter.unusedVariables false
set_option maxRecDepth 100000
set_option linter.unusedSimpArgs false

def donePost (w0 : World) (p : Nat) (l : List UInt8) (e : Ending) (w' : World) : Prop := e = .returned (.tuple #[]) ∧ wOk w0 w' p l

set_option maxHeartbeats 4000000 in
theorem writePartReq_any (F : List Nat) (r : RQ) (ev : Value) (w0 w : World) (p : Nat) (l : List UInt8) (h : rqV w F r ev) (hok : r.ok = true) (ho : wOk w0 w p l) (hb : l.length ≤ 100000) (hb2 : (reqB r).length ≤ 100000) :
    Calls Tryz.prog 45 #[.pointer (some ⟨p, 0, none⟩), .agg (rqL r ev).toArray, .func (.func 14) #[] #[]] w (donePost w0 p ((l ++ cb (reqB r).length) ++ reqB r)) := by
  have k1 := (keepBut.refl [] w).alloc (.cells (rqL r ev).toArray 26)
  have r1 := rowAt.new w 26 (rqL r ev).toArray
  obtain ⟨w1, hw1⟩ : ∃ w1, w.alloc (.cells (rqL r ev).toArray 26) = w1 := ⟨_, rfl⟩
  rw [hw1] at k1 r1
  have hI : (Tryz.prog.info? 26).map (·.size) = some (rqL r ev).length := by rw [rqL_len h.1]; exact info_rq
  have HS := Lib.hid (And.intro r1.rangeAll (And.intro hI (And.intro (ho.over k1) (show rqV w1 F r ev from ⟨h.1, h.2.keep k1 (by simp)⟩))))
  have HW := Lib.hid hw1
  clear k1 r1 hw1 h hI ho
  go_enter Tryz.func45, Tryz.ntmps45
  go_upto_region 1 with (with_reducible refine wpList_box_agg _ rfl 26 (.tmp 1) rfl _ rfl ?_)
  rw [HW.out]
  go_wp2_with (first
    | (refine wpList_load_mid rfl 26 (.tmp 4) rfl w.heap.size 0 rfl (rqL r ev) _ HS.out.1 Tryz.underlying26 rfl HS.out.2.1 ?_)
    | (go_at_call 14; refine (bytesReq_any F r ev _ HS.out.2.2.2 hok).mono ?_; rintro e w2 ⟨u, G, rfl, ⟨A2, c2, g2, rfl, _, _, sn2, hg2⟩, nw2, kk2⟩; have H2 := Lib.hid (And.intro sn2 (And.intro (fun hne : reqB r ≠ [] => (nw2 g2 (hg2 hne)).1) kk2)); clear sn2 hg2 nw2 kk2)
    | (go_at_call 49; refine (HS.out.2.2.1.textNew H2.out.2.2 A2 g2 _ c2 (reqB r) rfl H2.out.1 H2.out.2.1 (by omega) (by omega)).mono ?_; rintro e w3 ⟨rfl, o3⟩; have O3 := Lib.hid o3; clear o3))
  go_end0
  exact ⟨rfl, O3.out⟩

set_option maxHeartbeats 4000000 in
theorem writePartAns_any (F : List Nat) (r : AN) (ev : Value) (w0 w : World) (p : Nat) (l : List UInt8) (h : anV w F r ev) (hok : r.ok = true) (ho : wOk w0 w p l) (hb : l.length ≤ 100000) (hb2 : (ansB r).length ≤ 100000) :
    Calls Tryz.prog 46 #[.pointer (some ⟨p, 0, none⟩), .agg (anL r ev).toArray, .func (.func 16) #[] #[]] w (donePost w0 p ((l ++ cb (ansB r).length) ++ ansB r)) := by
  have k1 := (keepBut.refl [] w).alloc (.cells (anL r ev).toArray 28)
  have r1 := rowAt.new w 28 (anL r ev).toArray
  obtain ⟨w1, hw1⟩ : ∃ w1, w.alloc (.cells (anL r ev).toArray 28) = w1 := ⟨_, rfl⟩
  rw [hw1] at k1 r1
  have hI : (Tryz.prog.info? 28).map (·.size) = some (anL r ev).length := by rw [anL_len h.1]; exact info_an
  have HS := Lib.hid (And.intro r1.rangeAll (And.intro hI (And.intro (ho.over k1) (show anV w1 F r ev from ⟨h.1, h.2.keep k1 (by simp)⟩))))
  have HW := Lib.hid hw1
  clear k1 r1 hw1 h hI ho
  go_enter Tryz.func46, Tryz.ntmps46
  go_upto_region 1 with (with_reducible refine wpList_box_agg _ rfl 28 (.tmp 1) rfl _ rfl ?_)
  rw [HW.out]
  go_wp2_with (first
    | (refine wpList_load_mid rfl 28 (.tmp 4) rfl w.heap.size 0 rfl (anL r ev) _ HS.out.1 Tryz.underlying28 rfl HS.out.2.1 ?_)
    | (go_at_call 16; refine (bytesAns_any F r ev _ HS.out.2.2.2 hok).mono ?_; rintro e w2 ⟨u, G, rfl, ⟨A2, c2, g2, rfl, _, _, sn2, hg2⟩, nw2, kk2⟩; have H2 := Lib.hid (And.intro sn2 (And.intro (fun hne : ansB r ≠ [] => (nw2 g2 (hg2 hne)).1) kk2)); clear sn2 hg2 nw2 kk2)
    | (go_at_call 49; refine (HS.out.2.2.1.textNew H2.out.2.2 A2 g2 _ c2 (ansB r) rfl H2.out.1 H2.out.2.1 (by omega) (by omega)).mono ?_; rintro e w3 ⟨rfl, o3⟩; have O3 := Lib.hid o3; clear o3))
  go_end0
  exact ⟨rfl, O3.out⟩

set_option maxHeartbeats 4000000 in
theorem writePartConf_any (F : List Nat) (r : CF) (ev : Value) (w0 w : World) (p : Nat) (l : List UInt8) (h : intsV w F ev r.chain) (hok : r.ok = true) (ho : wOk w0 w p l) (hb : l.length ≤ 100000) (hb2 : (cfB r).length ≤ 100000) :
    Calls Tryz.prog 47 #[.pointer (some ⟨p, 0, none⟩), .agg (cfL r ev).toArray, .func (.func 18) #[] #[]] w (donePost w0 p ((l ++ cb (cfB r).length) ++ cfB r)) := by
  have k1 := (keepBut.refl [] w).alloc (.cells (cfL r ev).toArray 31)
  have r1 := rowAt.new w 31 (cfL r ev).toArray
  obtain ⟨w1, hw1⟩ : ∃ w1, w.alloc (.cells (cfL r ev).toArray 31) = w1 := ⟨_, rfl⟩
  rw [hw1] at k1 r1
  have hI : (Tryz.prog.info? 31).map (·.size) = some (cfL r ev).length := by exact info_cf
  have HS := Lib.hid (And.intro r1.rangeAll (And.intro hI (And.intro (ho.over k1) (h.keep k1 (by simp)))))
  have HW := Lib.hid hw1
  clear k1 r1 hw1 h hI ho
  go_enter Tryz.func47, Tryz.ntmps47
  go_upto_region 1 with (with_reducible refine wpList_box_agg _ rfl 31 (.tmp 1) rfl _ rfl ?_)
  rw [HW.out]
  go_wp2_with (first
    | (refine wpList_load_mid rfl 31 (.tmp 4) rfl w.heap.size 0 rfl (cfL r ev) _ HS.out.1 Tryz.underlying31 rfl HS.out.2.1 ?_)
    | (go_at_call 18; refine (bytesConf_any F r ev _ HS.out.2.2.2 hok).mono ?_; rintro e w2 ⟨u, G, rfl, ⟨A2, c2, g2, rfl, _, _, sn2, hg2⟩, nw2, kk2⟩; have H2 := Lib.hid (And.intro sn2 (And.intro (fun hne : cfB r ≠ [] => (nw2 g2 (hg2 hne)).1) kk2)); clear sn2 hg2 nw2 kk2)
    | (go_at_call 49; refine (HS.out.2.2.1.textNew H2.out.2.2 A2 g2 _ c2 (cfB r) rfl H2.out.1 H2.out.2.1 (by omega) (by omega)).mono ?_; rintro e w3 ⟨rfl, o3⟩; have O3 := Lib.hid o3; clear o3))
  go_end0
  exact ⟨rfl, O3.out⟩

set_option maxHeartbeats 1000000 in
theorem writeReady_any (b : Bool) (w0 w : World) (p : Nat) (l : List UInt8) (ho : wOk w0 w p l) (hb : l.length ≤ 100000) :
    Calls Tryz.prog 44 #[.pointer (some ⟨p, 0, none⟩), .bool b] w (donePost w0 p (l ++ beBytes 1 (if b then 1 else 0))) := by
  have HO := Lib.hid ho
  clear ho
  cases b
  all_goals
    go_enter Tryz.func44, Tryz.ntmps44
    go_wp2_with (first
      | (go_at_call 42; (with_reducible refine (HO.out.num 1 (by omega) (by omega) (by omega)).mono ?_); rintro e w3 ⟨rfl, o3⟩; have O3 := Lib.hid o3; clear o3)
      | (go_at_call 42; (with_reducible refine (HO.out.num 0 (by omega) (by omega) (by omega)).mono ?_); rintro e w3 ⟨rfl, o3⟩; have O3 := Lib.hid o3; clear o3))
    go_end0
    exact ⟨rfl, O3.out⟩
def vtB (v : VT) : List UInt8 := (cb v.ballot.toNat ++ cb (cfB v.conf).length) ++ cfB v.conf
def vtsE : List VT → List UInt8
  | [] => []
  | v :: r => vtB v ++ vtsE r
theorem vtsE_append : ∀ l m : List VT, vtsE (l ++ m) = vtsE l ++ vtsE m
  | [], m => rfl
  | a :: r, m => by rw [List.cons_append, vtsE, vtsE, vtsE_append r m, List.append_assoc]
theorem vtsE_take {l : List VT} {i : Nat} {a : VT} (h : l[i]? = some a) : vtsE (l.take (i + 1)) = vtsE (l.take i) ++ vtB a := by
  rw [List.take_add_one, h, vtsE_append]
  simp [vtsE]
theorem cfB_len {c : CF} (h : c.ok = true) : (cfB c).length ≤ 14 := by
  have hf := c.ok_facts h
  have h1 := cb8 (n := c.num) hf.1.2
  unfold cfB
  simp only [List.length_append, be1, chB_len, List.length_nil]
  omega
theorem vtB_len {v : VT} (h : v.ok = true) : (vtB v).length ≤ 30 := by
  unfold VT.ok at h
  rw [Bool.and_eq_true, inP_iff] at h
  have h1 := cb8 (n := v.ballot) h.1.2
  have h2 := cfB_len h.2
  have h3 := cb8 (n := ((cfB v.conf).length : Int)) (by omega)
  rw [Int.toNat_natCast] at h3
  unfold vtB
  simp only [List.length_append]
  omega
theorem vtsB_at : ∀ {l : List VT} {i : Nat} {v : VT}, vtsB l = true → l[i]? = some v → v.ok = true
  | [], i, v, _, h => by simp at h
  | a :: r, 0, v, hb, h => by
    simp at h; subst h
    unfold vtsB at hb
    exact (Bool.and_eq_true _ _ ▸ hb).1
  | a :: r, i + 1, v, hb, h => by
    unfold vtsB at hb
    rw [Bool.and_eq_true] at hb
    exact vtsB_at (l := r) hb.2 (by simpa using h)
theorem vtsE_len : ∀ (l : List VT), vtsB l = true → (vtsE l).length ≤ 30 * l.length
  | [], _ => by simp [vtsE]
  | a :: r, h => by
    unfold vtsB at h
    rw [Bool.and_eq_true] at h
    have h1 := vtB_len h.1
    have h2 := vtsE_len r h.2
    simp only [vtsE, List.length_append, List.length_cons]
    omega
theorem vtsB_take {l : List VT} (h : vtsB l = true) (i : Nat) : vtsB (l.take i) = true := by
  induction l generalizing i with
  | nil => simpa using h
  | cons a r ih =>
    unfold vtsB at h
    rw [Bool.and_eq_true] at h
    cases i with
    | zero => rfl
    | succ i =>
      rw [List.take_succ_cons]
      unfold vtsB
      rw [Bool.and_eq_true]
      exact ⟨h.1, ih h.2 i⟩
set_option maxHeartbeats 8000000 in
theorem writeVotes_any (F : List Nat) (l : List VT) (v : Value) (w0 w : World) (p : Nat) (b0 : List UInt8) (h : votesV w0 F v l) (hok : vtsOk l = true) (ho : wOk w0 w p b0) (hb : b0.length ≤ 10000) :
    Calls Tryz.prog 48 #[.pointer (some ⟨p, 0, none⟩), v] w (donePost w0 p ((b0 ++ beBytes 1 l.length) ++ vtsE l)) := by
  unfold vtsOk at hok
  rw [Bool.and_eq_true, decide_eq_true_eq] at hok
  obtain ⟨A, c, gA, TA, rfl, _, hc, _⟩ := id h
  have HO := Lib.hid ho
  have HV := Lib.hid (And.intro h hok)
  clear h ho hok
  have h8 := HV.out.2.1
  obtain ⟨L, hL⟩ : ∃ L, l.length = L := ⟨_, rfl⟩
  have HL := Lib.hid hL
  rw [hL] at h8 HV ⊢
  clear hL
  go_enter Tryz.func48, Tryz.ntmps48
  go_upto_region 1 with (first
    | (go_at_call 42; (with_reducible refine (HO.out.num (L : Int) (by omega) (by omega) (by omega)).mono ?_); rintro e w1 ⟨rfl, o1⟩; have O1 := Lib.hid o1; clear o1))
  obtain ⟨B, hB⟩ : ∃ B, b0 ++ beBytes 1 L = B := ⟨_, rfl⟩
  have hBl : B.length ≤ 10001 := by rw [← hB, List.length_append, be1]; omega
  have HBB := Lib.hid hB
  have O2 : Hid (wOk w0 w1 p B) := Lib.hid (by have := O1.out; rw [Int.toNat_natCast, hB] at this; exact this)
  clear O1 hB
  go_upto_region 2 with fail
  go_loopw [5, 12] (fun _ v12 wx => ∃ i : Nat, i ≤ L ∧ v12 = .int .i64 (i : Int) ∧ wOk w0 wx p (B ++ vtsE (l.take i))) (fun _ v12 _ => L - (intOf v12).toNat)
  case atStart => exact ⟨0, by omega, rfl, by simpa [vtsE] using O2.out⟩
  case round =>
    obtain ⟨i, hi, rfl, ho⟩ := hrel
    have HO3 := Lib.hid ho
    clear ho
    by_cases hlt : i < L
    · have hlt' : (i : Int) < (L : Int) := by omega
      have hn0 : (0 : Int) ≤ (i : Int) := by omega
      have hw1 : IntKind.i64.wrap ((i : Int) + 1) = (i : Int) + 1 := wraps_i64 _ (by omega) (by omega)
      obtain ⟨a, ha⟩ : ∃ a, l[i]? = some a := ⟨_, List.getElem?_eq_getElem (by have := HL.out; omega)⟩
      obtain ⟨g, o, cv, rfl, hgl, _, hcv, x0, x1, x2, x3⟩ := HV.out.1.at ha
      have e := fun q => HO3.out.kept.cell (p := ⟨g, q, none⟩) hgl (by simp)
      rw [← e] at x0 x1 x2 x3
      clear e
      have hok := vtsB_at HV.out.2.2 ha
      have HT := Lib.hid (vtsE_take ha)
      have hll : (B ++ vtsE (l.take i)).length ≤ 20000 := by
        have h1 := vtsE_len _ (vtsB_take HV.out.2.2 i)
        have h2 : (l.take i).length ≤ 8 := by rw [List.length_take]; omega
        rw [List.length_append]; omega
      obtain ⟨Bi, hBi⟩ : ∃ Bi, B ++ vtsE (l.take i) = Bi := ⟨_, rfl⟩
      rw [hBi] at hll HO3
      have HBi := Lib.hid hBi
      obtain ⟨ab, an, af, al⟩ := a
      have hfb : 1 ≤ ab ∧ ab ≤ 9007199254740991 := by
        unfold VT.ok at hok
        rw [Bool.and_eq_true, inP_iff] at hok
        exact hok.1
      have hcl : (cfB ⟨an, af, al⟩).length ≤ 14 := cfB_len (by unfold VT.ok at hok; rw [Bool.and_eq_true] at hok; exact hok.2)
      have hc8 := cb8 (n := ab) hfb.2
      have HK := Lib.hid (And.intro hok (And.intro hcl hc8))
      dsimp only at x0 x1 x2 x3 hcv
      obtain ⟨CA, cc, cg, rfl, _⟩ := id hcv
      have HCV := Lib.hid hcv
      clear hcv ha hok hcl hc8 hBi
      go_upto_region 4 with fail
      have k7 := (keepBut.refl [] wr).alloc (.cells #[.int .i64 ab, .int .i64 an, .int .i64 af, .slice CA al.length cc] 69)
      have r7 := rowAt.new wr 69 #[.int .i64 ab, .int .i64 an, .int .i64 af, .slice CA al.length cc]
      obtain ⟨wv, hwv⟩ : ∃ wv, wr.alloc (.cells #[.int .i64 ab, .int .i64 an, .int .i64 af, .slice CA al.length cc] 69) = wv := ⟨_, rfl⟩
      rw [hwv] at k7 r7 ⊢
      obtain ⟨tv, htv⟩ : ∃ tv, wr.heap.size = tv := ⟨_, rfl⟩
      rw [htv] at r7 ⊢
      have htl : w0.heap.size ≤ tv := by have := HO3.out.kept.size; omega
      have HO4 := Lib.hid (HO3.out.over k7)
      have y0 : wv.cell? ⟨tv, 0, none⟩ = some (.int .i64 ab) := r7.cell 0
      have htp : tv ≠ p := fun e => by have := HO3.out.lt; omega
      have HV4 : Hid (∃ v', isWr wv p v' ⟨Bi, 0⟩ ∧ tv ∉ homes v' ∧ (w0.heap.size ≤ p ∧ (∀ x ∈ homes v', w0.heap.size ≤ x) ∧ keepBut [] w0 wv)) := Lib.hid (by
        obtain ⟨v', q1, q2, q3, q4⟩ := HO3.out
        exact ⟨v', q1.keep k7 (by simp) (by simp), fun hm => by have := q1.2.lt tv hm; omega, q2, q3, q4.then k7 (by simp)⟩)
      obtain ⟨v', q1, q2, q3, q4, q5⟩ := HV4.out
      have HQ := Lib.hid (And.intro q2 (And.intro q3 (And.intro q4 (And.intro q5 r7))))
      clear k7 r7 hwv x0 x1 x2 x3 htv q2 q3 q4 q5
      have hq1 := Lib.hid q1
      clear q1
      go_upto_region 5 with (first
        | (go_at_call 43; refine (wcount_any p v' _ ab _ hq1.out (show Bi.length ≤ _ by omega)).mono ?_; intro e w5 hp; rw [ws_count Bi (by omega) (by omega)] at hp; obtain ⟨_, v6, h6, k6, hh6⟩ := id hp; obtain ⟨rfl, o5⟩ := wOk.step hq1.out HQ.out.2.1 HQ.out.2.2.1 HQ.out.2.2.2.1 hp; have r8 := k6.row HQ.out.2.2.2.2 (by simp only [List.mem_cons]; exact fun hm => hm.elim htp HQ.out.1); have O5 := Lib.hid o5; clear hp h6 hh6 k6 o5))
      have y1 : w5.cell? ⟨tv, 1, none⟩ = some (.int .i64 an) := r8.cell 1
      have y2 : w5.cell? ⟨tv, 2, none⟩ = some (.int .i64 af) := r8.cell 2
      have y3 : w5.cell? ⟨tv, 3, none⟩ = some (.slice CA al.length cc) := r8.cell 3
      have HR8 := Lib.hid r8
      clear r8 y0
      go_wp2_with (first
        | (go_at_call 47; refine (writePartConf_any F ⟨an, af, al⟩ _ w0 _ p _ (HCV.out.keep O5.out.kept (by simp)) (by have := HK.out.1; unfold VT.ok at this; rw [Bool.and_eq_true] at this; exact this.2) O5.out (by rw [List.length_append]; have := HK.out.2.2; omega) (by have := HK.out.2.1; omega)).mono ?_; rintro e w6 ⟨rfl, o6⟩; have O6 := Lib.hid o6; clear o6))
      go_roundw
      case rel => exact ⟨i + 1, by omega, by go_num, by rw [HT.out, ← List.append_assoc, HBi.out]; have := O6.out; unfold vtB; rw [← List.append_assoc, ← List.append_assoc]; exact this⟩
      case measure => simp [intOf]; omega
    · obtain rfl : i = L := by omega
      have HE := Lib.hid (show B ++ vtsE (l.take i) = B ++ vtsE l by rw [← HL.out, List.take_length])
      rw [HE.out] at HO3
      go_wp2_with fail
      go_end0
      exact ⟨rfl, by rw [HBB.out]; exact HO3.out⟩
end Go.Proofs.YthfdkonhjpdflaaGreatDoor
end

section
namespace Go.Proofs.YthfdkonhjpdflaaGreatDoor
open Go.RowKit
set_option linter.unusedVariables false
set_option maxRecDepth 100000
set_option linter.unusedSimpArgs false

def aI (b : Int) (l m : List UInt8) : List UInt8 := if b = 0 then l else l ++ m
/-- the head of a packet's bytes -/
def pkH (p : PK) : List UInt8 := (([] ++ beBytes 1 p.kind.toNat) ++ beBytes 1 p.frm.toNat) ++ beBytes 1 p.dst.toNat
def pk1 (p : PK) (h : Int) : List UInt8 := aI (bitA h 1) (pkH p) (cb p.num.toNat)
def pk2 (p : PK) (h : Int) : List UInt8 := aI (bitA h 2) (pk1 p h) (cb (p.seq + 1).toNat)
def pk3 (p : PK) (h : Int) : List UInt8 := aI (bitA h 4) (pk2 p h) (cb p.ballot.toNat)
def pk4 (p : PK) (h : Int) : List UInt8 := aI (bitA h 8) (pk3 p h) (beBytes 1 (if p.ready then 1 else 0))
def pk5 (p : PK) (h : Int) : List UInt8 := aI (bitA h 16) (pk4 p h) (cb (reqB p.req).length ++ reqB p.req)
def pk6 (p : PK) (h : Int) : List UInt8 := aI (bitA h 32) (pk5 p h) (cb (ansB p.ans).length ++ ansB p.ans)
def pk7 (p : PK) (h : Int) : List UInt8 := aI (bitA h 64) (pk6 p h) (cb (cfB p.conf).length ++ cfB p.conf)
def pk8 (p : PK) (h : Int) : List UInt8 := aI (bitA h 128) (pk7 p h) (beBytes 1 p.votes.length ++ vtsE p.votes)
def pk9 (p : PK) (h : Int) : List UInt8 := aI (bitA h 256) (pk8 p h) (cb p.bytes.length ++ p.bytes)
def pkB (p : PK) : List UInt8 := pk9 p (fieldsP p.kind)
theorem PK.ok_facts {p : PK} (h : p.ok = true) : fieldsP p.kind ≠ 0 ∧ nodeP p.frm = true ∧ nodeP p.dst = true ∧ p.same (p.cut (fieldsP p.kind)) = true ∧ (0 ≤ p.num ∧ p.num ≤ 9007199254740991) ∧ (0 ≤ p.ballot ∧ p.ballot ≤ 9007199254740991) ∧ seqP p.kind p.seq = true ∧ p.bytes.length ≤ 32768 ∧ (bitA (fieldsP p.kind) 16 = 0 ∨ p.req.ok = true) ∧ (bitA (fieldsP p.kind) 32 = 0 ∨ p.ans.ok = true) ∧ (bitA (fieldsP p.kind) 64 = 0 ∨ p.conf.ok = true) ∧ vtsOk p.votes = true := by
  unfold PK.ok PK.parts at h
  simpa only [Bool.and_eq_true, Bool.or_eq_true, inP_iff, decide_eq_true_eq, beq_iff_eq, Bool.not_eq_true', beq_eq_false_iff_ne, ne_eq] using h
theorem fieldsP_kind {k : Int} (h : fieldsP k ≠ 0) : 1 ≤ k ∧ k ≤ 14 := by
  unfold fieldsP at h
  split at h
  · rename_i hk
    by_cases e : k = 0
    · subst e; exact absurd rfl h
    · omega
  · exact absurd rfl h
theorem nodeP_range {n : Int} (h : nodeP n = true) : 0 ≤ n ∧ n ≤ 22 := by
  unfold nodeP at h
  simp only [Bool.or_eq_true, inP_iff] at h
  omega
theorem seqP_range {k n : Int} (h : seqP k n = true) : -1 ≤ n ∧ n ≤ 9007199254740990 := by
  unfold seqP at h
  rw [inP_iff] at h
  split at h <;> omega
theorem reqB_len {r : RQ} (h : r.ok = true) (hn : r.name.length = 32) : (reqB r).length ≤ 1082 := by
  have hf := r.ok_facts h
  have h1 := cb8 (n := r.num) hf.2.1.2
  have h2 := cb8 (n := r.version) hf.2.2.2.1.2
  have h3 := cb8 (n := (r.env.length : Int)) (by omega)
  rw [Int.toNat_natCast] at h3
  unfold reqB
  simp only [List.length_append, be1, List.length_nil, hn]
  omega
theorem ansB_len {r : AN} (h : r.ok = true) (hn : r.name.length = 32) : (ansB r).length ≤ 1083 := by
  have hf := r.ok_facts h
  have h1 := cb8 (n := r.num) hf.2.1.2
  have h2 := cb8 (n := r.version) hf.2.2.2.1.2
  have h3 := cb8 (n := (r.env.length : Int)) (by omega)
  rw [Int.toNat_natCast] at h3
  unfold ansB
  simp only [List.length_append, be1, List.length_nil, hn]
  omega
theorem aI_len {b : Int} {l m : List UInt8} {n k : Nat} (h1 : l.length ≤ n) (h2 : b = 0 ∨ m.length ≤ k) : (aI b l m).length ≤ n + k := by
  unfold aI
  split
  · omega
  · rename_i hb
    rw [List.length_append]
    have := h2.resolve_left hb
    omega
theorem aI_off {b : Int} (l m : List UInt8) (h : b = 0) : aI b l m = l := by unfold aI; rw [if_pos h]
theorem aI_on {b : Int} (l m : List UInt8) (h : b ≠ 0) : aI b l m = l ++ m := by unfold aI; rw [if_neg h]
theorem pk_lens {p : PK} (h : p.ok = true) (hn : p.req.name.length = 32) (ha : p.ans.name.length = 32) :
    (pkH p).length ≤ 3 ∧ (pk1 p (fieldsP p.kind)).length ≤ 11 ∧ (pk2 p (fieldsP p.kind)).length ≤ 19 ∧ (pk3 p (fieldsP p.kind)).length ≤ 27 ∧ (pk4 p (fieldsP p.kind)).length ≤ 28 ∧ (pk5 p (fieldsP p.kind)).length ≤ 1118 ∧ (pk6 p (fieldsP p.kind)).length ≤ 2209 ∧ (pk7 p (fieldsP p.kind)).length ≤ 2231 ∧ (pk8 p (fieldsP p.kind)).length ≤ 2472 ∧ (pk9 p (fieldsP p.kind)).length ≤ 35248 := by
  obtain ⟨h1, h2, h3, h4, h5, h6, h7, h8, h9, h10, h11, h12⟩ := p.ok_facts h
  have hs := seqP_range h7
  generalize fieldsP p.kind = f at *
  have e0 : (pkH p).length ≤ 3 := by unfold pkH; simp only [List.length_append, be1, List.length_nil]; omega
  have e1 : (pk1 p f).length ≤ 11 := aI_len e0 (.inr (cb8 h5.2))
  have e2 : (pk2 p f).length ≤ 19 := aI_len e1 (.inr (cb8 (by omega)))
  have e3 : (pk3 p f).length ≤ 27 := aI_len e2 (.inr (cb8 h6.2))
  have e4 : (pk4 p f).length ≤ 28 := aI_len (k := 1) e3 (.inr (by rw [be1]; omega))
  have hc : ∀ n : Nat, n ≤ 100000 → (cb n).length ≤ 8 := fun n hn => by have := cb8 (n := (n : Int)) (by omega); rwa [Int.toNat_natCast] at this
  have e5 : (pk5 p f).length ≤ 1118 := aI_len (k := 1090) e4 (h9.imp id (fun h => by have := reqB_len h hn; have := hc (reqB p.req).length (by omega); rw [List.length_append]; omega))
  have e6 : (pk6 p f).length ≤ 2209 := aI_len (k := 1091) e5 (h10.imp id (fun h => by have := ansB_len h ha; have := hc (ansB p.ans).length (by omega); rw [List.length_append]; omega))
  have e7 : (pk7 p f).length ≤ 2231 := aI_len (k := 22) e6 (h11.imp id (fun h => by have := cfB_len h; have := hc (cfB p.conf).length (by omega); rw [List.length_append]; omega))
  have e8 : (pk8 p f).length ≤ 2472 := aI_len (k := 241) e7 (.inr (by
    unfold vtsOk at h12
    rw [Bool.and_eq_true, decide_eq_true_eq] at h12
    have := vtsE_len _ h12.2
    rw [List.length_append, be1]; omega))
  have e9 : (pk9 p f).length ≤ 35248 := aI_len (k := 32776) e8 (.inr (by have := hc p.bytes.length (by omega); rw [List.length_append]; omega))
  exact ⟨e0, e1, e2, e3, e4, e5, e6, e7, e8, e9⟩
set_option maxHeartbeats 4000000 in
theorem bytes_no (F : List Nat) (p : PK) (ev av cv vv bw : Value) (w : World) (h : pkV w F p ev av cv vv bw) (hfl : fieldsAt w) (hb1 : i64P p.frm) (hb2 : i64P p.dst) (hok : p.ok = false) :
    Calls Tryz.prog 7 #[.agg (pkL p ev av cv vv bw).toArray] w fun e w' => e = .returned (.tuple #[.slice none 0 0, .int .i64 2]) ∧ keepBut [] w w' := by
  have k1 := (keepBut.refl [] w).alloc (.cells (pkL p ev av cv vv bw).toArray 34)
  have r1 := rowAt.new w 34 (pkL p ev av cv vv bw).toArray
  obtain ⟨w1, hw1⟩ : ∃ w1, w.alloc (.cells (pkL p ev av cv vv bw).toArray 34) = w1 := ⟨_, rfl⟩
  rw [hw1] at k1 r1
  have hI : (Tryz.prog.info? 34).map (·.size) = some (pkL p ev av cv vv bw).length := by rw [pkL_len h.rn h.an]; exact info_pk
  have HS := Lib.hid (And.intro r1.rangeAll (And.intro hI (And.intro k1 (And.intro (h.keep k1 (by simp)) (hfl.keep k1 (by simp))))))
  have HW := Lib.hid hw1
  clear k1 r1 hw1 h hI hfl
  go_enter Tryz.func7, Tryz.ntmps7
  go_upto_region 1 with (with_reducible refine wpList_box_agg _ rfl 34 (.tmp 0) rfl _ rfl ?_)
  rw [HW.out]
  go_upto_region 2 with (first
    | (refine wpList_load_mid rfl 34 (.tmp 1) rfl w.heap.size 0 rfl (pkL p ev av cv vv bw) _ HS.out.1 Tryz.underlying34 rfl HS.out.2.1 ?_)
    | (go_at_call 9; refine (check_any F p ev av cv vv bw _ HS.out.2.2.2.1 HS.out.2.2.2.2 hb1 hb2).mono ?_; rintro e w2 ⟨rfl, kk⟩; rw [hok]; have K2 := Lib.hid (HS.out.2.2.1.then kk (by simp)); clear kk))
  go_wp2_with fail
  go_ret2
  exact ⟨rfl, K2.out⟩
set_option maxHeartbeats 16000000 in
theorem bytes_any (F : List Nat) (p : PK) (ev av cv vv bw : Value) (w : World) (h : pkV w F p ev av cv vv bw) (hfl : fieldsAt w) (hb1 : i64P p.frm) (hb2 : i64P p.dst) (hok : p.ok = true) :
    Calls Tryz.prog 7 #[.agg (pkL p ev av cv vv bw).toArray] w (outPost w (pkB p)) := by
  have hf := p.ok_facts hok
  have k1 := (keepBut.refl [] w).alloc (.cells (pkL p ev av cv vv bw).toArray 34)
  have r1 := rowAt.new w 34 (pkL p ev av cv vv bw).toArray
  obtain ⟨w1, hw1⟩ : ∃ w1, w.alloc (.cells (pkL p ev av cv vv bw).toArray 34) = w1 := ⟨_, rfl⟩
  rw [hw1] at k1 r1
  have hI : (Tryz.prog.info? 34).map (·.size) = some (pkL p ev av cv vv bw).length := by rw [pkL_len h.rn h.an]; exact info_pk
  have HS := Lib.hid (And.intro r1.rangeAll (And.intro hI (And.intro k1 (And.intro (h.keep k1 (by simp)) (hfl.keep k1 (by simp))))))
  have HW := Lib.hid hw1
  have HR1 := Lib.hid r1
  have HF := Lib.hid hf
  have HP := Lib.hid h
  have hrn := h.rn
  have han := h.an
  clear k1 r1 hw1 h hI hfl hf
  obtain ⟨A0, c0, g0, rfl, _⟩ := id HP.out.re
  obtain ⟨A1, c1, g1, rfl, _⟩ := id HP.out.ae
  obtain ⟨A2, c2, g2, rfl, _⟩ := id HP.out.cc
  obtain ⟨A3, c3, g3, T3, rfl, _⟩ := id HP.out.vs
  obtain ⟨A4, c4, g4, rfl, _, _, hs4, _⟩ := id HP.out.bs
  have HS4 := Lib.hid hs4
  clear hs4
  go_enter Tryz.func7, Tryz.ntmps7
  go_upto_region 1 with (with_reducible refine wpList_box_agg _ rfl 34 (.tmp 0) rfl _ rfl ?_)
  rw [HW.out]
  go_upto_region 2 with (first
    | (refine wpList_load_mid rfl 34 (.tmp 1) rfl w.heap.size 0 rfl (pkL p _ _ _ _ _) _ HS.out.1 Tryz.underlying34 rfl HS.out.2.1 ?_)
    | (go_at_call 9; refine (check_any F p _ _ _ _ _ _ HS.out.2.2.2.1 HS.out.2.2.2.2 hb1 hb2).mono ?_; rintro e w2 ⟨rfl, kk⟩; rw [hok]; have r2 := kk.row HR1.out (by simp); have K2 := Lib.hid (HS.out.2.2.1.then kk (by simp)); have F2 := Lib.hid (HS.out.2.2.2.2.keep kk (by simp)); clear kk))
  obtain ⟨tb, htb⟩ : ∃ tb, w.heap.size = tb := ⟨_, rfl⟩
  have HP2 := Lib.hid (HP.out.keep K2.out (by simp))
  rw [htb] at r2 ⊢
  have HTB := Lib.hid htb
  have x0 : w2.cell? ⟨tb, 0, none⟩ = some (.int .i64 p.kind) := (r2.cell 0).trans rfl
  clear htb
  go_upto_region 5 with (first
    | (go_at_call 40; refine (fieldsOf_any p.kind _ F2.out).mono ?_; rintro e w' ⟨rfl, rfl⟩))
  have z0 : w2.drew.cell? ⟨tb, 0, none⟩ = some (.int .i64 p.kind) := x0
  have z1 : w2.drew.cell? ⟨tb, 1, none⟩ = some (.int .i64 p.frm) := (r2.cell 1).trans rfl
  have z2 : w2.drew.cell? ⟨tb, 2, none⟩ = some (.int .i64 p.dst) := (r2.cell 2).trans rfl
  have r2d : rowAt w2.drew tb 34 _ := r2
  have PA : Hid (∀ wx, keepBut [] w2.drew wx → pkAt wx tb p (.slice A0 p.req.env.length c0) (.slice A1 p.ans.env.length c1) (.slice A2 p.conf.chain.length c2) (.slice A3 p.votes.length c3) (.slice A4 p.bytes.length c4)) := Lib.hid (fun wx k => (k.row r2d (by simp)).pk hrn han)
  have Z0 : w2.drew.cell? ⟨tb, 0, none⟩ = some (.int .i64 p.kind) ∧ w2.drew.cell? ⟨tb, 1, none⟩ = some (.int .i64 p.frm) ∧ w2.drew.cell? ⟨tb, 2, none⟩ = some (.int .i64 p.dst) := ⟨z0, z1, z2⟩
  have KD := Lib.hid (K2.out.then ((keepBut.refl [] w2).drew) (by simp))
  have HPD := Lib.hid (HP2.out.keep ((keepBut.refl [] w2).drew) (by simp))
  have HLS := Lib.hid (pk_lens hok hrn han)
  have HKD := Lib.hid (And.intro (fieldsP_kind HF.out.1) (And.intro (nodeP_range HF.out.2.1) (nodeP_range HF.out.2.2.1)))
  clear r2 r2d x0 z0 z1 z2
  go_region_held3 (fun w' => w'.cell? ⟨tb, 0, none⟩ = some (.int .i64 p.kind) ∧ w'.cell? ⟨tb, 1, none⟩ = some (.int .i64 p.frm) ∧ w'.cell? ⟨tb, 2, none⟩ = some (.int .i64 p.dst)) (first | exact Z0 | exact Y0 | exact Y1 | exact Y2 | exact Y3)
    (first
      | (go_at_call 41; refine wOk.start.mono ?_; rintro e v0 ⟨q, rfl, o0⟩; have O0 := Lib.hid o0; have Y0 := And.intro (PA.out _ o0.kept).c0 (And.intro (PA.out _ o0.kept).c1 (PA.out _ o0.kept).c2); clear o0)
      | (go_at_call 42; (with_reducible refine (O0.out.num p.kind (by have := HKD.out; omega) (by have := HKD.out; omega) (by simp)).mono ?_); rintro e v1 ⟨rfl, o1⟩; have O1 := Lib.hid o1; have Y1 := And.intro (PA.out _ o1.kept).c0 (And.intro (PA.out _ o1.kept).c1 (PA.out _ o1.kept).c2); clear o1)
      | (go_at_call 42; (with_reducible refine (O1.out.num p.frm (by have := HKD.out; omega) (by have := HKD.out; omega) (by simp only [List.length_append, be1, List.length_nil]; omega)).mono ?_); rintro e v2 ⟨rfl, o2⟩; have O2 := Lib.hid o2; have Y2 := And.intro (PA.out _ o2.kept).c0 (And.intro (PA.out _ o2.kept).c1 (PA.out _ o2.kept).c2); clear o2)
      | (go_at_call 42; (with_reducible refine (O2.out.num p.dst (by have := HKD.out; omega) (by have := HKD.out; omega) (by simp only [List.length_append, be1, List.length_nil]; omega)).mono ?_); rintro e v3 ⟨rfl, o3⟩; have O3 := Lib.hid o3; have Y3 := And.intro (PA.out _ o3.kept).c0 (And.intro (PA.out _ o3.kept).c1 (PA.out _ o3.kept).c2); clear o3))
  clear O0 O1 O2 Y0 Y1 Y2 Y3 Z0
  have O : Hid (wOk w2.drew v3 q (pkH p)) := O3
  clear O3
  obtain ⟨f, hf⟩ : ∃ f, fieldsP p.kind = f := ⟨_, rfl⟩
  rw [hf] at HF HLS ⊢
  have HFF := Lib.hid hf
  clear hf
  go_upto_if 27 with fail
  go_cut [] (fun wx => wOk w2.drew wx q (pk1 p f))
  case first =>
   by_cases hb : bitA f 1 = 0
   · have hbb : (bits .and .i64 f 1 != 0) = false := by have := hb; unfold bitA at this; simp [this]
     have E := Lib.hid (aI_off (pkH p) (cb p.num.toNat) hb)
     clear hb
     go_wp2_with fail
     go_meet
     exact (by rw [show pk1 p f = _ from E.out]; exact O.out)
   · have hbb : (bits .and .i64 f 1 != 0) = true := by have := hb; unfold bitA at this; simp [this]
     have E := Lib.hid (aI_on (pkH p) (cb p.num.toNat) hb)
     have y := (PA.out _ O.out.kept).c3
     go_wp2_with (first
       | (go_at_call 43; refine (O.out.count p.num HF.out.2.2.2.2.1.1 HF.out.2.2.2.2.1.2 (by have := HLS.out; omega)).mono ?_; rintro e wx ⟨rfl, ox⟩))
     go_meet
     exact (by rw [show pk1 p f = _ from E.out]; exact ox)
  have O := Lib.hid hcut
  clear hcut
  go_upto_if 34 with fail
  go_cut [] (fun wx => wOk w2.drew wx q (pk2 p f))
  case first =>
   by_cases hb : bitA f 2 = 0
   · have hbb : (bits .and .i64 f 2 != 0) = false := by have := hb; unfold bitA at this; simp [this]
     have E := Lib.hid (aI_off (pk1 p f) (cb (p.seq + 1).toNat) hb)
     clear hb
     go_wp2_with fail
     go_meet
     exact (by rw [show pk2 p f = _ from E.out]; exact O.out)
   · have hbb : (bits .and .i64 f 2 != 0) = true := by have := hb; unfold bitA at this; simp [this]
     have E := Lib.hid (aI_on (pk1 p f) (cb (p.seq + 1).toNat) hb)
     have y := (PA.out _ O.out.kept).c4
     have hws : IntKind.i64.wrap (p.seq + 1) = p.seq + 1 := wraps_i64 _ (by have := seqP_range HF.out.2.2.2.2.2.2.1; omega) (by have := seqP_range HF.out.2.2.2.2.2.2.1; omega)
     go_wp2_with (first
       | (go_at_call 43; refine (O.out.count (p.seq + 1) (by have := seqP_range HF.out.2.2.2.2.2.2.1; omega) (by have := seqP_range HF.out.2.2.2.2.2.2.1; omega) (by have := HLS.out; omega)).mono ?_; rintro e wx ⟨rfl, ox⟩))
     go_meet
     exact (by rw [show pk2 p f = _ from E.out]; exact ox)
  have O := Lib.hid hcut
  clear hcut
  go_upto_if 42 with fail
  go_cut [] (fun wx => wOk w2.drew wx q (pk3 p f))
  case first =>
   by_cases hb : bitA f 4 = 0
   · have hbb : (bits .and .i64 f 4 != 0) = false := by have := hb; unfold bitA at this; simp [this]
     have E := Lib.hid (aI_off (pk2 p f) (cb p.ballot.toNat) hb)
     clear hb
     go_wp2_with fail
     go_meet
     exact (by rw [show pk3 p f = _ from E.out]; exact O.out)
   · have hbb : (bits .and .i64 f 4 != 0) = true := by have := hb; unfold bitA at this; simp [this]
     have E := Lib.hid (aI_on (pk2 p f) (cb p.ballot.toNat) hb)
     have y := (PA.out _ O.out.kept).c5
     go_wp2_with (first
       | (go_at_call 43; refine (O.out.count p.ballot HF.out.2.2.2.2.2.1.1 HF.out.2.2.2.2.2.1.2 (by have := HLS.out; omega)).mono ?_; rintro e wx ⟨rfl, ox⟩))
     go_meet
     exact (by rw [show pk3 p f = _ from E.out]; exact ox)
  have O := Lib.hid hcut
  clear hcut
  go_upto_if 49 with fail
  go_cut [] (fun wx => wOk w2.drew wx q (pk4 p f))
  case first =>
   by_cases hb : bitA f 8 = 0
   · have hbb : (bits .and .i64 f 8 != 0) = false := by have := hb; unfold bitA at this; simp [this]
     have E := Lib.hid (aI_off (pk3 p f) (beBytes 1 (if p.ready then 1 else 0)) hb)
     clear hb
     go_wp2_with fail
     go_meet
     exact (by rw [show pk4 p f = _ from E.out]; exact O.out)
   · have hbb : (bits .and .i64 f 8 != 0) = true := by have := hb; unfold bitA at this; simp [this]
     have E := Lib.hid (aI_on (pk3 p f) (beBytes 1 (if p.ready then 1 else 0)) hb)
     have y := (PA.out _ O.out.kept).c6
     go_wp2_with (first
       | (go_at_call 44; refine (writeReady_any p.ready _ _ q _ O.out (by have := HLS.out; omega)).mono ?_; rintro e wx ⟨rfl, ox⟩))
     go_meet
     exact (by rw [show pk4 p f = _ from E.out]; exact ox)
  have O := Lib.hid hcut
  clear hcut
  go_upto_if 56 with fail
  go_cut [] (fun wx => wOk w2.drew wx q (pk5 p f))
  case first =>
   by_cases hb : bitA f 16 = 0
   · have hbb : (bits .and .i64 f 16 != 0) = false := by have := hb; unfold bitA at this; simp [this]
     have E := Lib.hid (aI_off (pk4 p f) (cb (reqB p.req).length ++ reqB p.req) hb)
     clear hb
     go_wp2_with fail
     go_meet
     exact (by rw [show pk5 p f = _ from E.out]; exact O.out)
   · have hbb : (bits .and .i64 f 16 != 0) = true := by have := hb; unfold bitA at this; simp [this]
     have E := Lib.hid (aI_on (pk4 p f) (cb (reqB p.req).length ++ reqB p.req) hb)
     have y := Lib.hid (PA.out _ O.out.kept).rq
     have hI : Hid ((Tryz.prog.info? 26).map (·.size) = some (rqL p.req (.slice A0 p.req.env.length c0)).length) := Lib.hid (by rw [rqL_len hrn]; exact info_rq)
     go_wp2_with (first
       | (refine wpList_load_mid rfl 26 (.tmp 58) rfl tb 7 rfl (rqL p.req (.slice A0 p.req.env.length c0)) _ y.out Tryz.underlying26 rfl hI.out ?_)
       | (go_at_call 45; refine (writePartReq_any F p.req _ _ _ q _ ⟨hrn, HPD.out.re.keep O.out.kept (by simp)⟩ (HF.out.2.2.2.2.2.2.2.2.1.resolve_left hb) O.out (by have := HLS.out; omega) (by have := reqB_len (HF.out.2.2.2.2.2.2.2.2.1.resolve_left hb) hrn; omega)).mono ?_; rintro e wx ⟨rfl, ox⟩))
     go_meet
     exact (by rw [show pk5 p f = _ from E.out]; rw [← List.append_assoc]; exact ox)
  have O := Lib.hid hcut
  clear hcut
  go_upto_if 63 with fail
  go_cut [] (fun wx => wOk w2.drew wx q (pk6 p f))
  case first =>
   by_cases hb : bitA f 32 = 0
   · have hbb : (bits .and .i64 f 32 != 0) = false := by have := hb; unfold bitA at this; simp [this]
     have E := Lib.hid (aI_off (pk5 p f) (cb (ansB p.ans).length ++ ansB p.ans) hb)
     clear hb
     go_wp2_with fail
     go_meet
     exact (by rw [show pk6 p f = _ from E.out]; exact O.out)
   · have hbb : (bits .and .i64 f 32 != 0) = true := by have := hb; unfold bitA at this; simp [this]
     have E := Lib.hid (aI_on (pk5 p f) (cb (ansB p.ans).length ++ ansB p.ans) hb)
     have y := Lib.hid (PA.out _ O.out.kept).an
     have hI : Hid ((Tryz.prog.info? 28).map (·.size) = some (anL p.ans (.slice A1 p.ans.env.length c1)).length) := Lib.hid (by rw [anL_len han]; exact info_an)
     go_wp2_with (first
       | (refine wpList_load_mid rfl 28 (.tmp 65) rfl tb 44 rfl (anL p.ans (.slice A1 p.ans.env.length c1)) _ y.out Tryz.underlying28 rfl hI.out ?_)
       | (go_at_call 46; refine (writePartAns_any F p.ans _ _ _ q _ ⟨han, HPD.out.ae.keep O.out.kept (by simp)⟩ (HF.out.2.2.2.2.2.2.2.2.2.1.resolve_left hb) O.out (by have := HLS.out; omega) (by have := ansB_len (HF.out.2.2.2.2.2.2.2.2.2.1.resolve_left hb) han; omega)).mono ?_; rintro e wx ⟨rfl, ox⟩))
     go_meet
     exact (by rw [show pk6 p f = _ from E.out]; rw [← List.append_assoc]; exact ox)
  have O := Lib.hid hcut
  clear hcut
  go_upto_if 70 with fail
  go_cut [] (fun wx => wOk w2.drew wx q (pk7 p f))
  case first =>
   by_cases hb : bitA f 64 = 0
   · have hbb : (bits .and .i64 f 64 != 0) = false := by have := hb; unfold bitA at this; simp [this]
     have E := Lib.hid (aI_off (pk6 p f) (cb (cfB p.conf).length ++ cfB p.conf) hb)
     clear hb
     go_wp2_with fail
     go_meet
     exact (by rw [show pk7 p f = _ from E.out]; exact O.out)
   · have hbb : (bits .and .i64 f 64 != 0) = true := by have := hb; unfold bitA at this; simp [this]
     have E := Lib.hid (aI_on (pk6 p f) (cb (cfB p.conf).length ++ cfB p.conf) hb)
     have y0 := (PA.out _ O.out.kept).d0
     have y1 := (PA.out _ O.out.kept).d1
     have y2 := (PA.out _ O.out.kept).d2
     go_wp2_with (first
       | (go_at_call 47; refine (writePartConf_any F p.conf _ _ _ q _ (HPD.out.cc.keep O.out.kept (by simp)) (HF.out.2.2.2.2.2.2.2.2.2.2.1.resolve_left hb) O.out (by have := HLS.out; omega) (by have := cfB_len (HF.out.2.2.2.2.2.2.2.2.2.2.1.resolve_left hb); omega)).mono ?_; rintro e wx ⟨rfl, ox⟩))
     go_meet
     exact (by rw [show pk7 p f = _ from E.out]; rw [← List.append_assoc]; exact ox)
  have O := Lib.hid hcut
  clear hcut
  go_upto_if 77 with fail
  go_cut [] (fun wx => wOk w2.drew wx q (pk8 p f))
  case first =>
   by_cases hb : bitA f 128 = 0
   · have hbb : (bits .and .i64 f 128 != 0) = false := by have := hb; unfold bitA at this; simp [this]
     have E := Lib.hid (aI_off (pk7 p f) (beBytes 1 p.votes.length ++ vtsE p.votes) hb)
     clear hb
     go_wp2_with fail
     go_meet
     exact (by rw [show pk8 p f = _ from E.out]; exact O.out)
   · have hbb : (bits .and .i64 f 128 != 0) = true := by have := hb; unfold bitA at this; simp [this]
     have E := Lib.hid (aI_on (pk7 p f) (beBytes 1 p.votes.length ++ vtsE p.votes) hb)
     have y := (PA.out _ O.out.kept).d3
     go_wp2_with (first
       | (go_at_call 48; refine (writeVotes_any F p.votes _ _ _ q _ HPD.out.vs HF.out.2.2.2.2.2.2.2.2.2.2.2 O.out (by have := HLS.out; omega)).mono ?_; rintro e wx ⟨rfl, ox⟩))
     go_meet
     exact (by rw [show pk8 p f = _ from E.out]; rw [← List.append_assoc]; exact ox)
  have O := Lib.hid hcut
  clear hcut
  go_upto_if 84 with fail
  go_cut [] (fun wx => wOk w2.drew wx q (pk9 p f))
  case first =>
   by_cases hb : bitA f 256 = 0
   · have hbb : (bits .and .i64 f 256 != 0) = false := by have := hb; unfold bitA at this; simp [this]
     have E := Lib.hid (aI_off (pk8 p f) (cb p.bytes.length ++ p.bytes) hb)
     clear hb
     go_wp2_with fail
     go_meet
     exact (by rw [show pk9 p f = _ from E.out]; exact O.out)
   · have hbb : (bits .and .i64 f 256 != 0) = true := by have := hb; unfold bitA at this; simp [this]
     have E := Lib.hid (aI_on (pk8 p f) (cb p.bytes.length ++ p.bytes) hb)
     have y := (PA.out _ O.out.kept).d4
     have HB4 : Hid (seen w2.drew A4 g4 p.bytes) := Lib.hid (HS4.out.keep KD.out (by simp))
     go_wp2_with (first
       | (go_at_call 49; refine (O.out.text A4 g4 _ c4 p.bytes rfl HB4.out (by have := HLS.out; omega) (by have := HF.out.2.2.2.2.2.2.2.1; omega)).mono ?_; rintro e wx ⟨rfl, ox⟩))
     go_meet
     exact (by rw [show pk9 p f = _ from E.out]; rw [← List.append_assoc]; exact ox)
  have O := Lib.hid hcut
  clear hcut
  have HE := Lib.hid (show pkB p = pk9 p f by unfold pkB; rw [HFF.out])
  have hll : (pk9 p f).length ≤ 1000000000 := by have := HLS.out; omega
  have HLL := Lib.hid hll
  clear hll
  go_wp2_with (first
    | (go_at_call 50; refine (O.out.bytes HLL.out).mono ?_; rintro e vz ⟨u, G, rfl, ub, un, uk⟩; have OZ := Lib.hid (And.intro ub (And.intro un uk)); clear ub un uk))
  go_ret2
  exact ⟨_, G, rfl, by rw [HE.out]; exact OZ.out.1, fun y hy => ⟨by have h1 := (OZ.out.2.1 y hy).1; have h2 := KD.out.size; omega, (OZ.out.2.1 y hy).2⟩, KD.out.then OZ.out.2.2 (by simp)⟩
end Go.Proofs.YthfdkonhjpdflaaGreatDoor
end
