/-
  PACK, 22: the bytes of configurations; parts; votes.
-/
import Derived.Test.YthfdkonhjpdflaaDoorPk21
namespace Go.Proofs.YthfdkonhjpdflaaDoor
open Go.RowKit
set_option linter.unusedVariables false
set_option maxRecDepth 100000
set_option linter.unusedSimpArgs false

theorem chainB_mem : ∀ (l pre : List Int), chainB pre l = true → ∀ n ∈ l, 10 ≤ n ∧ n ≤ 13
  | [], _, _, n, hn => by simp at hn
  | a :: r, pre, h, n, hn => by
    unfold chainB at h
    rw [Bool.and_eq_true, Bool.and_eq_true, inP_iff] at h
    rcases List.mem_cons.1 hn with rfl | hn
    · exact h.1
    · exact chainB_mem r _ h.2.2 n hn
theorem CF.ok_facts {c : CF} (h : c.ok = true) : (0 ≤ c.num ∧ c.num ≤ 9007199254740991) ∧ (1 ≤ c.chain.length ∧ c.chain.length ≤ 4) ∧ (1 ≤ c.full ∧ c.full ≤ c.chain.length) ∧ ∀ n ∈ c.chain, 10 ≤ n ∧ n ≤ 13 := by
  unfold CF.ok at h
  simp only [Bool.and_eq_true, inP_iff, decide_eq_true_eq] at h
  exact ⟨h.1, ⟨h.2.1, h.2.2.1⟩, h.2.2.2.1, chainB_mem _ _ h.2.2.2.2⟩
theorem chB_append : ∀ (l m : List Int), chB (l ++ m) = chB l ++ chB m
  | [], m => rfl
  | a :: r, m => by rw [List.cons_append, chB, chB, chB_append r m, List.append_assoc]
theorem chB_take {l : List Int} {i : Nat} {a : Int} (h : l[i]? = some a) : chB (l.take (i + 1)) = chB (l.take i) ++ beBytes 1 a.toNat := by
  rw [List.take_add_one, h, chB_append]
  simp [chB]
theorem chB_len : ∀ l : List Int, (chB l).length = l.length
  | [] => rfl
  | a :: r => by simp only [chB, List.length_append, be1, chB_len r, List.length_cons]; omega
set_option maxHeartbeats 4000000 in
theorem bytesConf_no (F : List Nat) (r : CF) (cv : Value) (w : World) (h : intsV w F cv r.chain) (hok : r.ok = false) :
    Calls Tryd.prog 19 #[.agg (cfL r cv).toArray] w fun e w' => e = .returned (.tuple #[.slice none 0 0, .int .i64 2]) ∧ keepBut [] w w' := by
  have k1 := (keepBut.refl [] w).alloc (.cells (cfL r cv).toArray 35)
  have r1 := rowAt.new w 35 (cfL r cv).toArray
  obtain ⟨w1, hw1⟩ : ∃ w1, w.alloc (.cells (cfL r cv).toArray 35) = w1 := ⟨_, rfl⟩
  rw [hw1] at k1 r1
  have HS := Lib.hid (And.intro r1.rangeAll (And.intro k1 (h.keep k1 (by simp))))
  have HW := Lib.hid hw1
  clear k1 r1 hw1 h
  go_enter Tryd.func19, Tryd.ntmps19
  go_upto_region 1 with (with_reducible refine wpList_box_agg _ rfl 35 (.tmp 0) rfl _ rfl ?_)
  rw [HW.out]
  go_upto_region 2 with (first
    | (refine wpList_load_mid rfl 35 (.tmp 1) rfl w.heap.size 0 rfl (cfL r cv) _ HS.out.1 Tryd.underlying35 rfl info_cf ?_)
    | (go_at_call 49; refine (checkConf_any F r cv _ HS.out.2.2).mono ?_; rintro e w2 ⟨rfl, kk⟩; rw [hok]; have K2 := Lib.hid (HS.out.2.1.then kk (by simp)); clear kk))
  go_wp2_with fail
  go_ret2
  exact ⟨rfl, K2.out⟩
set_option maxHeartbeats 8000000 in
theorem bytesConf_any (F : List Nat) (r : CF) (cv : Value) (w : World) (h : intsV w F cv r.chain) (hok : r.ok = true) :
    Calls Tryd.prog 19 #[.agg (cfL r cv).toArray] w (outPost w (cfB r)) := by
  have hf := r.ok_facts hok
  have k1 := (keepBut.refl [] w).alloc (.cells (cfL r cv).toArray 35)
  have r1 := rowAt.new w 35 (cfL r cv).toArray
  obtain ⟨w1, hw1⟩ : ∃ w1, w.alloc (.cells (cfL r cv).toArray 35) = w1 := ⟨_, rfl⟩
  rw [hw1] at k1 r1
  have HS := Lib.hid (And.intro r1.rangeAll (And.intro k1 (h.keep k1 (by simp))))
  have HW := Lib.hid hw1
  have HR1 := Lib.hid r1
  obtain ⟨A, c, g, rfl, _, hcm, hA, _⟩ := h
  have HF := Lib.hid hf
  have HA := Lib.hid hA
  clear k1 r1 hw1 hf hA
  go_enter Tryd.func19, Tryd.ntmps19
  go_upto_region 1 with (with_reducible refine wpList_box_agg _ rfl 35 (.tmp 0) rfl _ rfl ?_)
  rw [HW.out]
  go_upto_region 2 with (first
    | (refine wpList_load_mid rfl 35 (.tmp 1) rfl w.heap.size 0 rfl (cfL r (.slice A r.chain.length c)) _ HS.out.1 Tryd.underlying35 rfl info_cf ?_)
    | (go_at_call 49; refine (checkConf_any F r _ _ HS.out.2.2).mono ?_; rintro e w2 ⟨rfl, kk⟩; rw [hok]; have r2 := kk.row HR1.out (by simp); have K2 := Lib.hid (HS.out.2.1.then kk (by simp)); clear kk))
  obtain ⟨L, hL⟩ : ∃ L, r.chain.length = L := ⟨_, rfl⟩
  obtain ⟨tb, htb⟩ : ∃ tb, w.heap.size = tb := ⟨_, rfl⟩
  rw [htb] at r2 ⊢
  rw [hL] at r2 ⊢
  have hf4 : L ≤ 4 := by have := HF.out.2.1; omega
  have hf1 : 1 ≤ L := by have := HF.out.2.1; omega
  have z0 : w2.drew.cell? ⟨tb, 0, none⟩ = some (.int .i64 r.num) := r2.cell 0
  have z1 : w2.drew.cell? ⟨tb, 1, none⟩ = some (.int .i64 r.full) := r2.cell 1
  have z2 : w2.drew.cell? ⟨tb, 2, none⟩ = some (.slice A L c) := (r2.cell 2).trans (by rw [← hL]; rfl)
  have Z : Hid (∀ w', keepBut [] w2.drew w' → (w'.cell? ⟨tb, 0, none⟩ = some (.int .i64 r.num) ∧ w'.cell? ⟨tb, 1, none⟩ = some (.int .i64 r.full) ∧ w'.cell? ⟨tb, 2, none⟩ = some (.slice A L c))) := Lib.hid (fun w' k => ⟨(k.cell (p := ⟨tb, 0, none⟩) r2.lt (by simp)).trans z0, (k.cell (p := ⟨tb, 1, none⟩) r2.lt (by simp)).trans z1, (k.cell (p := ⟨tb, 2, none⟩) r2.lt (by simp)).trans z2⟩)
  have Z0 := Z.out _ (keepBut.refl [] w2.drew)
  have KD := Lib.hid (K2.out.then ((keepBut.refl [] w2).drew) (by simp))
  have HL := Lib.hid hL
  clear r2 z0 z1 z2 hL
  have HC := Lib.hid (cb8 (n := r.num) (by have := HF.out.1; omega))
  have HL1 : Hid (([] : List UInt8).length ≤ 1000000000) := Lib.hid (by simp)
  have HL2 : Hid ((([] : List UInt8) ++ cb r.num.toNat).length ≤ 1000000000) := Lib.hid (by have := HC.out; simp only [List.length_append, List.length_nil]; omega)
  have HL3 : Hid (((([] : List UInt8) ++ cb r.num.toNat) ++ beBytes 1 r.full.toNat).length ≤ 1000000000) := Lib.hid (by have := HC.out; simp only [List.length_append, List.length_nil, be1]; omega)
  go_upto_region 4 with fail
  go_region_held3 (fun w' => w'.cell? ⟨tb, 0, none⟩ = some (.int .i64 r.num) ∧ w'.cell? ⟨tb, 1, none⟩ = some (.int .i64 r.full) ∧ w'.cell? ⟨tb, 2, none⟩ = some (.slice A L c)) (first | exact Z0 | exact Y0 | exact Y1 | exact Y2 | exact Y3)
    (first
      | (go_at_call 28; refine wOk.start.mono ?_; rintro e v0 ⟨p, rfl, o0⟩; have O0 := Lib.hid o0; have Y0 := Z.out _ o0.kept; clear o0)
      | (go_at_call 30; (with_reducible refine (O0.out.count r.num (by have := HF.out.1; omega) (by have := HF.out.1; omega) HL1.out).mono ?_); rintro e v1 ⟨rfl, o1⟩; have O1 := Lib.hid o1; have Y1 := Z.out _ o1.kept; clear o1)
      | (go_at_call 29; (with_reducible refine (O1.out.num r.full (by have := HF.out.2.2.1; omega) (by have := HF.out.2.1; have := HF.out.2.2.1; omega) HL2.out).mono ?_); rintro e v2 ⟨rfl, o2⟩; have O2 := Lib.hid o2; have Y2 := Z.out _ o2.kept; clear o2)
      | (go_at_call 29; (with_reducible refine (O2.out.num (L : Int) (by omega) (by omega) HL3.out).mono ?_); rintro e v3 ⟨rfl, o3⟩; have O3 := Lib.hid o3; have Y3 := Z.out _ o3.kept; clear o3))
  obtain ⟨B, hB⟩ : ∃ B, ((([] : List UInt8) ++ cb r.num.toNat) ++ beBytes 1 r.full.toNat) ++ beBytes 1 (L : Int).toNat = B := ⟨_, rfl⟩
  have hBl : B.length ≤ 10 := by have := HC.out; rw [← hB]; simp only [List.length_append, List.length_nil, be1]; omega
  have HB := Lib.hid (show cfB r = B ++ chB r.chain by rw [← hB]; unfold cfB; rw [HL.out, Int.toNat_natCast])
  have O4 : Hid (wOk w2.drew v3 p B) := by rw [← hB]; exact O3
  clear hB O3 Y0 Y1 Y2 Z0
  obtain ⟨x0, x1, x2⟩ := Y3
  go_upto_region 6 with fail
  go_loopw [7, 27] (fun _ v27 wx => ∃ i : Nat, i ≤ L ∧ v27 = .int .i64 (i : Int) ∧ wOk w2.drew wx p (B ++ chB (r.chain.take i))) (fun _ v27 _ => L - (intOf v27).toNat)
  case atStart => exact ⟨0, by omega, rfl, by simpa [chB] using O4.out⟩
  case round =>
    obtain ⟨i, hi, rfl, ho⟩ := hrel
    have HO := Lib.hid ho
    clear ho
    by_cases hlt : i < L
    · have hlt' : (i : Int) < (L : Int) := by omega
      have hn0 : (0 : Int) ≤ (i : Int) := by omega
      have hw1 : IntKind.i64.wrap ((i : Int) + 1) = (i : Int) + 1 := wraps_i64 _ (by omega) (by omega)
      obtain ⟨a, ha⟩ : ∃ a, r.chain[i]? = some a := ⟨_, List.getElem?_eq_getElem (by have := HL.out; omega)⟩
      obtain ⟨o, rfl, hgl, hcA⟩ := HA.out.2 (by have := HL.out; omega)
      have hkk := KD.out.then HO.out.kept (by simp)
      have y0 : wr.cell? ⟨g, o + i, none⟩ = some (.int .i64 a) := (hkk.cell (p := ⟨g, o + i, none⟩) hgl (by simp)).trans (hcA i (.int .i64 a) (by rw [List.getElem?_map, ha]; rfl))
      have ham := HF.out.2.2.2 a (List.mem_of_getElem? ha)
      have HT := Lib.hid (chB_take ha)
      have hll : (B ++ chB (r.chain.take i)).length ≤ 1000000000 := by rw [List.length_append, chB_len, List.length_take]; omega
      have HLL := Lib.hid hll
      clear ha hcA hkk hll
      go_wp2_with (first
        | (go_at_call 29; (with_reducible refine (HO.out.num a (by omega) (by omega) HLL.out).mono ?_); rintro e v4 ⟨rfl, o4⟩; have HO4 := Lib.hid o4; clear o4))
      go_roundw
      case rel => exact ⟨i + 1, by omega, by go_num, by rw [HT.out, ← List.append_assoc]; exact HO4.out⟩
      case measure => simp [intOf]; omega
    · obtain rfl : i = L := by omega
      have HE := Lib.hid (show B ++ chB (r.chain.take i) = cfB r by rw [HB.out, ← HL.out, List.take_length])
      rw [HE.out] at HO
      have hll : (cfB r).length ≤ 1000000000 := by rw [HB.out, List.length_append, chB_len, HL.out]; omega
      have HLL := Lib.hid hll
      clear hll
      go_wp2_with (first
        | (go_at_call 37; (with_reducible refine (HO.out.bytes HLL.out).mono ?_); rintro e vz ⟨u, G, rfl, ub, un, uk⟩; have OZ := Lib.hid (And.intro ub (And.intro un uk)); clear ub un uk))
      go_ret2
      exact ⟨_, G, rfl, OZ.out.1, fun y hy => ⟨by have h1 := (OZ.out.2.1 y hy).1; have h2 := KD.out.size; omega, (OZ.out.2.1 y hy).2⟩, KD.out.then OZ.out.2.2 (by simp)⟩
end Go.Proofs.YthfdkonhjpdflaaDoor
