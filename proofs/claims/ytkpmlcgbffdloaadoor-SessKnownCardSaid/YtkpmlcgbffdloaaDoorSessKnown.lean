/-
  SESSKNOWN: the law's walk.
-/
import Derived.Test.YtkpmlcgbffdloaaDoorSKnown2
namespace Go.Proofs.YtkpmlcgbffdloaaDoor
open Go.RowKit
set_option linter.unusedVariables false
set_option maxRecDepth 100000
set_option linter.unusedSimpArgs false

def knK (A : Option Addr) : List (List Value) := [doQL 0 0 [] (getR 1) nilV, doQL 2 0 [] rqZero nilV, doQL 5 3 [12, 11] rqZero (.slice A 2 2), doQL 2 0 [] rqZero nilV, doQL 0 0 [] r9 nilV, doQL 6 0 [] rqZero nilV, doQL 0 0 [] r9 nilV, doQL 0 0 [] (getR 2) nilV, doQL 5 4 [] rqZero nilV, doQL 2 0 [] rqZero nilV]
theorem knK_len (A : Option Addr) : ∀ X ∈ knK A, X.length = 127 := by
  intro X hX
  simp only [knK, List.mem_cons, List.not_mem_nil, or_false] at hX
  rcases hX with rfl | rfl | rfl | rfl | rfl | rfl | rfl | rfl | rfl | rfl
  all_goals exact doQL_len _ _ _ _ _ (by first | exact rqZero_name | rfl | (simp [getR]))
theorem kn_dos (w w2 W : World) (A : Option Addr) (g e : Nat) (C : Array Value) (hr : rowAt W g 46 C) (hC : ∀ i X, (knK A)[i]? = some X → ∀ r u, X[r]? = some u → C[i * 127 + r]? = some u) (hA : intsV W [e] (.slice A 2 2) [12, 11]) (he : e < W.heap.size) : dos W (some ⟨g, 0, none⟩) 10 := fun _ => by
  refine ⟨g, 0, rfl, hr.lt, fun j hj => ?_⟩
  have key : ∀ (kind n : Int) (chain : List Int) (r : RQ) (cv : Value), (knK A)[j]? = some (doQL kind n chain r cv) → i64P kind → i64P n → intsV W [e] cv chain → rqV W [e] r nilV → ∃ d cv ev xe xa xc xv xb F, W.rangeAt g (0 + j * 127) (doL d cv ev xe xa xc xv xb) ∧ doV W F d cv ev xe xa xc xv xb ∧ ∀ y ∈ F, y < W.heap.size := fun kind n chain r cv hX hk hn hc hq =>
    ⟨doQ kind n chain r, cv, nilV, nilV, nilV, nilV, nilV, nilV, [e], fun k u hu => by rw [hr.cell, Nat.zero_add]; exact hC j _ hX k u hu, doQ_val kind n chain r cv W [e] hk hn hc hq, fun y hy => by simp only [List.mem_singleton] at hy; omega⟩
  have nv : intsV W [e] nilV [] := intsV.nil _ _
  have z0 : i64P 0 := by unfold i64P; omega
  have z2 : i64P 2 := by unfold i64P; omega
  have z3 : i64P 3 := by unfold i64P; omega
  have z4 : i64P 4 := by unfold i64P; omega
  have z5 : i64P 5 := by unfold i64P; omega
  have z6 : i64P 6 := by unfold i64P; omega
  have qz : rqV W [e] rqZero nilV := ⟨rqZero_name, bytesV.nil _ _⟩
  have q9 : rqV W [e] r9 nilV := ⟨rqZero_name, bytesV.nil _ _⟩
  match j, hj with
  | 0, _ => exact key 0 0 [] (getR 1) nilV rfl z0 z0 nv (getR_val _ _ _)
  | 1, _ => exact key 2 0 [] rqZero nilV rfl z2 z0 nv qz
  | 2, _ => exact key 5 3 [12, 11] rqZero _ rfl z5 z3 hA qz
  | 3, _ => exact key 2 0 [] rqZero nilV rfl z2 z0 nv qz
  | 4, _ => exact key 0 0 [] r9 nilV rfl z0 z0 nv q9
  | 5, _ => exact key 6 0 [] rqZero nilV rfl z6 z0 nv qz
  | 6, _ => exact key 0 0 [] r9 nilV rfl z0 z0 nv q9
  | 7, _ => exact key 0 0 [] (getR 2) nilV rfl z0 z0 nv (getR_val _ _ _)
  | 8, _ => exact key 5 4 [] rqZero nilV rfl z5 z4 nv qz
  | 9, _ => exact key 2 0 [] rqZero nilV rfl z2 z0 nv qz
theorem dos.keep {w w' : World} {A : Option Addr} {n : Nat} (h : dos w A n) (hk : keepBut [] w w') : dos w' A n := fun hn => by
  obtain ⟨g, o, h1, h2, h3⟩ := h hn
  refine ⟨g, o, h1, Nat.lt_of_lt_of_le h2 hk.size, fun j hj => ?_⟩
  obtain ⟨d, cv, ev, xe, xa, xc, xv, xb, F, a, b, c⟩ := h3 j hj
  exact ⟨d, cv, ev, xe, xa, xc, xv, xb, F, fun r u hu => (hk.cell (p := ⟨g, o + j * 127 + r, none⟩) h2 (by simp)).trans (a r u hu), b.over hk, fun y hy => Nat.lt_of_lt_of_le (c y hy) hk.size⟩
theorem info_doZ : ∃ (i : TypeInfo) (z : Value), Tryd.prog.info? 46 = some i ∧ i.size = 127 ∧ i.zero = some z := by
  have h : (Tryd.prog.info? 46).map (fun i => (i.size, i.zero.isSome)) = some (127, true) := by kernel_rfl
  obtain ⟨i, hi, he⟩ := Option.map_eq_some_iff.1 h
  injection he with h1 h2
  obtain ⟨z, hz⟩ := Option.isSome_iff_exists.1 h2
  exact ⟨i, z, hi, h1, hz⟩
set_option maxHeartbeats 8000000 in
theorem sessKnown_law (w : World) (hsz : sizesAt w) :
    Calls Tryd.prog 8 #[] w fun e w' => e = .returned (.bool true) ∧ keepBut [] w w' := by
  have HSZ := Lib.hid hsz
  clear hsz
  obtain ⟨ie, z, hie, hsi, hz⟩ := info_doZ
  have HI := Lib.hid (And.intro hie (And.intro hsi hz))
  have HFI := Lib.hid (fun A => fill_rows 127 (by decide) (knK A) 0 ((Array.range (10 * 127)).map (z.cells[· % z.cells.size]!)) (knK_len A) (by rw [Array.size_map, Array.size_range]; exact Nat.le_refl _))
  clear hie hsi hz
  obtain ⟨G1, hG1⟩ : ∃ R, rqL (getR 1) nilV = R := ⟨_, rfl⟩
  obtain ⟨G2, hG2⟩ : ∃ R, rqL (getR 2) nilV = R := ⟨_, rfl⟩
  have HG1 := Lib.hid hG1
  have HG2 := Lib.hid hG2
  have HC1 := Lib.hid (show ∀ W, Calls Tryd.prog 20 #[.int .u8 1] W (fun e w' => e = .returned (.agg (rqL (getR 1) nilV).toArray) ∧ keepBut [] W w') from fun W => get_any 1 W)
  have HC2 := Lib.hid (show ∀ W, Calls Tryd.prog 20 #[.int .u8 2] W (fun e w' => e = .returned (.agg (rqL (getR 2) nilV).toArray) ∧ keepBut [] W w') from fun W => get_any 2 W)
  rw [hG1] at HC1
  rw [hG2] at HC2
  clear hG1 hG2
  obtain ⟨E, hE⟩ : ∃ E : Array Value, #[Value.int .i64 (-9223372036854775808), Value.int .i64 (-1), Value.int .i64 0, Value.int .i64 1, Value.int .i64 2, Value.int .i64 3, Value.int .i64 1000, Value.int .i64 1001, Value.int .i64 100000, Value.int .i64 100001, Value.int .i64 9007199254740991, Value.int .i64 9007199254740992, Value.int .i64 9223372036854775807] = E := ⟨_, rfl⟩
  have HE := Lib.hid (show ∀ i : Nat, i < 13 → ∃ z, E[i]? = some (.int .i64 z) from fun i hi => by
    rw [← hE]
    match i, hi with
    | 0, _ | 1, _ | 2, _ | 3, _ | 4, _ | 5, _ | 6, _ | 7, _ | 8, _ | 9, _ | 10, _ | 11, _ | 12, _ => exact ⟨_, rfl⟩)
  have HEE := Lib.hid hE
  clear hE
  obtain ⟨Q0, hQ0⟩ : ∃ Q, doQL 0 0 [] (getR 1) nilV = Q := ⟨_, rfl⟩
  obtain ⟨Q7, hQ7⟩ : ∃ Q, doQL 0 0 [] (getR 2) nilV = Q := ⟨_, rfl⟩
  obtain ⟨Q9, hQ9⟩ : ∃ Q, doQL 0 0 [] r9 nilV = Q := ⟨_, rfl⟩
  have HQ := Lib.hid (And.intro hQ0 (And.intro hQ7 hQ9))
  have HB0 := Lib.hid (show ∀ W, (Instr.build 46 #[(3, .agg G1.toArray)]).run Tryd.prog W = .ok (.agg Q0.toArray) W from fun W => by rw [← HG1.out, ← hQ0]; exact run_build (P := Tryd.prog) _ _ #[(3, .agg (rqL (getR 1) nilV).toArray)] _ bd_get1)
  have HB7 := Lib.hid (show ∀ W, (Instr.build 46 #[(3, .agg G2.toArray)]).run Tryd.prog W = .ok (.agg Q7.toArray) W from fun W => by rw [← HG2.out, ← hQ7]; exact run_build (P := Tryd.prog) _ _ #[(3, .agg (rqL (getR 2) nilV).toArray)] _ bd_get2)
  have HB9 := Lib.hid (show ∀ W, (Instr.build 46 #[(3, .agg (rqL r9 nilV).toArray)]).run Tryd.prog W = .ok (.agg Q9.toArray) W from fun W => by rw [← hQ9]; exact run_build (P := Tryd.prog) _ _ #[(3, .agg (rqL r9 nilV).toArray)] _ bd_r9)
  clear hQ0 hQ7 hQ9
  go_enter Tryd.func8, Tryd.ntmps8
  go_upto_region 2 with fail
  rw [HEE.out]
  have r1 := rowAt.new w 3 E
  have k1 := (keepBut.refl [] w).alloc (.cells E 3)
  obtain ⟨ee, hee⟩ : ∃ e, w.heap.size = e := ⟨_, rfl⟩
  rw [hee] at r1 ⊢
  generalize w.alloc (.cells E 3) = w1 at r1 k1 ⊢
  have H1 := Lib.hid (And.intro r1 (And.intro k1 hee))
  clear r1 k1 hee
  go_upto_region 3 with (first
    | (go_at_call 20; (first | ((with_reducible refine (HC1.out _).mono ?_); rintro e w2 ⟨rfl, k2⟩; have H2 := Lib.hid k2; clear k2) | ((with_reducible refine (HC2.out _).mono ?_); rintro e w4 ⟨rfl, k4⟩; have H4 := Lib.hid k4; clear k4)))
    | (refine wpList_build_to _ rfl 46 _ rfl (.agg Q0.toArray) #[(3, .agg G1.toArray)] (by simp only [List.map_toArray, List.map_cons, List.map_nil]; rfl) (HB0.out _) ?_)
    | (refine wpList_build_to _ rfl 46 _ rfl (.agg Q7.toArray) #[(3, .agg G2.toArray)] (by simp only [List.map_toArray, List.map_cons, List.map_nil]; rfl) (HB7.out _) ?_)
    | (refine wpList_build_to _ rfl 46 _ rfl (.agg Q9.toArray) #[(3, .agg (rqL r9 nilV).toArray)] (by simp only [List.map_toArray, List.map_cons, List.map_nil]; rfl) (HB9.out _) ?_)
    | (rw [zc_53, zc_54, zc_2, zc_6]; obtain ⟨C, hC1, hC2, hC3⟩ := HFI.out (some ⟨w2.heap.size, 0, none⟩); have HC := Lib.hid hC3; refine wpList_buildSlice rfl 23 46 10 _ rfl C ie z Tryd.underlying23 HI.out.1 HI.out.2.2 (by rw [HI.out.2.1]; decide) (by rw [HI.out.2.1]; decide) (by rw [HI.out.2.1]; simp only [List.map_toArray, List.map_cons, List.map_nil]; rw [← hC1]; simp only [knK, HQ.out.1, HQ.out.2.1, HQ.out.2.2]; rfl) ?_; clear hC1 hC2 hC3))
  have rI := rowAt.new w2 3 #[Value.int .i64 12, Value.int .i64 11]
  have kI := (keepBut.refl [] w2).alloc (.cells #[Value.int .i64 12, Value.int .i64 11] 3)
  have rC := rowAt.new w4 46 C
  have kC := (keepBut.refl [] w4).alloc (.cells C 46)
  obtain ⟨c2, hc2⟩ : ∃ e, w2.heap.size = e := ⟨_, rfl⟩
  obtain ⟨c4, hc4⟩ : ∃ e, w4.heap.size = e := ⟨_, rfl⟩
  rw [hc2] at rI HC ⊢
  rw [hc4] at rC ⊢
  have K4 := ((H1.out.2.1.then H2.out (by simp)).then kI (by simp)).then H4.out (by simp)
  have rI4 := H4.out.row rI (by simp)
  have rE4 := H4.out.row (kI.row (H2.out.row H1.out.1 (by simp)) (by simp)) (by simp)
  generalize w4.alloc (.cells C 46) = w5 at rC kC ⊢
  have K5 := K4.then kC (by simp)
  have rI5 := kC.row rI4 (by simp)
  have rE5 := kC.row rE4 (by simp)
  have hA : intsV w5 [c2] (.slice (some ⟨c2, 0, none⟩) 2 2) [12, 11] := ⟨some ⟨c2, 0, none⟩, 2, c2, rfl, Nat.le_refl _, by simp [maxLen], ⟨by simp, fun _ => ⟨0, rfl, rI5.lt, fun j u hu => by rw [rI5.cell, Nat.zero_add]; simpa using hu⟩⟩, fun _ => by simp⟩
  have HD := Lib.hid (kn_dos w w2 w5 (some ⟨c2, 0, none⟩) c4 c2 C rC (fun i X h r u hu => by have := HC.out i X h r u hu; rwa [Nat.zero_add] at this) hA rI5.lt)
  have H5 := Lib.hid (And.intro K5 (And.intro rE5 (HSZ.out.keep K5 (by simp))))
  clear rI kI rC kC hc2 hc4 K4 rI4 rE4 K5 rI5 rE5 hA HFI HB0 HB7 HB9 HQ H2 H4
  obtain ⟨X4, hX4⟩ : ∃ X : List Value, [Value.int .i64 1, Value.int .i64 1, Value.int .i64 2, Value.int .i64 9] = X := ⟨_, rfl⟩
  obtain ⟨Z4, hZ4⟩ : ∃ X : List Value, [Value.int .i64 0, Value.int .i64 0, Value.int .i64 0, Value.int .i64 0] = X := ⟨_, rfl⟩
  have HZ4 := Lib.hid (show (Tryd.prog.info? 22).bind (·.zero) = some (.agg Z4.toArray) ∧ Z4.length = 4 ∧ X4.length = 4 ∧ ∀ u ∈ X4, u.oneCell' = true by rw [← hZ4, ← hX4]; exact ⟨by kernel_rfl, rfl, rfl, by simp [Value.oneCell']⟩)
  have HX4 := Lib.hid (show Value.agg #[.int .i64 1, .int .i64 1, .int .i64 2, .int .i64 9] = Value.agg X4.toArray by rw [← hX4])
  have HX5 := Lib.hid hX4
  have HI4 := Lib.hid (show (Tryd.prog.info? 22).map (·.size) = some 4 by kernel_rfl)
  clear hX4 hZ4
  go_wp2_with fail
  go_loopw [3, 4] (fun v3 _ wx => ∃ i : Nat, i ≤ 13 ∧ v3 = .int .i64 (i : Int) ∧ Hid (keepBut [] w5 wx)) (fun v3 _ _ => 13 - (intOf v3).toNat)
  case atStart => exact ⟨0, by omega, rfl, Lib.hid (keepBut.refl _ _)⟩
  case round =>
    obtain ⟨i, hil, rfl, HK⟩ := hrel
    by_cases hlt : i < 13
    · have hi2 : (i : Int) < 13 := by omega
      have hi0 : (0 : Int) ≤ (i : Int) := by omega
      have hwi : IntKind.i64.wrap ((i : Int) + 1) = (i : Int) + 1 := by rw [IntKind.wrap_i64]; omega
      obtain ⟨ez, hez⟩ := HE.out i hlt
      have HEZ := Lib.hid hez
      clear hez
      obtain ⟨wo, rfl⟩ : ∃ wo : World, wo = wr := ⟨_, rfl⟩
      go_wp2_with fail
      go_loopw [4] (fun v4 wx => ∃ k : Nat, k ≤ 4 ∧ v4 = .int .i64 (k : Int) ∧ Hid (keepBut [] w5 wx)) (fun v4 _ => 4 - (intOf v4).toNat)
      case atStart => exact ⟨0, by omega, rfl, HK⟩
      case round =>
        obtain ⟨k, hkl, rfl, HJ⟩ := hrel
        by_cases hkt : k < 4
        · have hk2 : (k : Int) < 4 := by omega
          have hk0 : (0 : Int) ≤ (k : Int) := by omega
          have hwk : IntKind.i64.wrap ((k : Int) + 1) = (k : Int) + 1 := by rw [IntKind.wrap_i64]; omega
          have ce : wr.cell? ⟨ee, i, none⟩ = some (.int .i64 ez) := ((HJ.out.row H5.out.2.1 (by simp)).cell i).trans HEZ.out
          have hs := storedP (w := wr) (t := 22) (Z := Z4) (X := X4) (by rw [HZ4.out.2.2.1, HZ4.out.2.1])
          have hth := there_newP (w := wr) (t := 22) (Z := Z4) (X := X4) (by rw [HZ4.out.2.2.1, HZ4.out.2.1])
          obtain ⟨x, hx⟩ : ∃ x, wr.heap.size = x := ⟨_, rfl⟩
          rw [hx] at hs hth
          have HS := Lib.hid (And.intro hs (And.intro hth hx))
          clear hs hth
          go_upto_region 10 with (first
            | (with_reducible refine wpList_alloc_to _ _ rfl 22 rfl _ HZ4.out.1 rfl ?_; try simp only [hx])
            | (refine wpList_store_mid rfl 22 (.tmp 5) (.tmp 40) rfl x 0 X4.toArray rfl HX4.out HS.out.2.1 (by rw [List.size_toArray, HZ4.out.2.2.1]; exact HI4.out) (by simpa using HZ4.out.2.2.2) ?_))
          obtain ⟨⟨r6, k6⟩, _, _⟩ := HS.out
          generalize (wr.alloc (.cells Z4.toArray 22)).setCells x 0 X4 = w6 at r6 k6 ⊢
          obtain ⟨u6, hu6⟩ : ∃ u, X4.toArray[k]? = some (.int .i64 u) := by
            rw [← HX5.out]
            match k, hkt with
            | 0, _ | 1, _ | 2, _ | 3, _ => exact ⟨_, rfl⟩
          obtain ⟨a0, a1, a2, a3, ha⟩ : ∃ a0 a1 a2 a3, X4.toArray.setIfInBounds k (.int .i64 ez) = ([.int .i64 a0, .int .i64 a1, .int .i64 a2, .int .i64 a3] : List Value).toArray := by
            rw [← HX5.out]
            match k, hkt with
            | 0, _ | 1, _ | 2, _ | 3, _ => exact ⟨_, _, _, _, rfl⟩
          have cx : w6.cell? ⟨x, k, none⟩ = some (.int .i64 u6) := (r6.cell k).trans hu6
          have fx := r6.free k
          have r7 := r6.set k (.int .i64 ez)
          rw [ha] at r7
          have k7 : keepBut [] wr (w6.setCell ⟨x, k, none⟩ (.int .i64 ez)) := k6.setCell _ _ (.inr (Nat.le_of_eq hx))
          have ce6 : w6.cell? ⟨ee, i, none⟩ = some (.int .i64 ez) := ((k6.row (HJ.out.row H5.out.2.1 (by simp)) (by simp)).cell i).trans HEZ.out
          have H7 := Lib.hid (And.intro r7.rangeAll (HJ.out.then k7 (by simp)))
          clear ce hx r6 k6 hu6 ha r7 k7
          go_upto_region 11 with fail
          generalize w6.setCell ⟨x, k, none⟩ (.int .i64 ez) = w7 at H7 ⊢
          have HSP := Lib.hid (sessPlays_law a0 a1 a2 a3 (some ⟨c4, 0, none⟩) 10 10 w7 (HD.out.keep H7.out.2) (Nat.le_refl _) (by simp [maxLen]) (H5.out.2.2.keep H7.out.2 (by simp)))
          clear cx fx ce6
          go_wp2_with (first
            | (refine wpList_load_mid rfl 22 (.tmp 5) rfl x 0 rfl [.int .i64 a0, .int .i64 a1, .int .i64 a2, .int .i64 a3] _ H7.out.1 Tryd.underlying22 rfl HI4.out ?_)
            | (go_at_call 3; (with_reducible refine HSP.out.mono ?_); rintro e w8 ⟨rfl, k8⟩; have H8 := Lib.hid k8; clear k8))
          go_roundw
          case rel => exact ⟨k + 1, by omega, by go_num, Lib.hid (H7.out.2.then H8.out (by simp))⟩
          case measure => simp only [intOf]; omega
        · obtain rfl : k = 4 := by omega
          go_wp2_with fail
          go_roundw
          case rel => exact ⟨i + 1, by omega, by go_num, HJ⟩
          case measure => simp only [intOf]; omega
    · obtain rfl : i = 13 := by omega
      have KW := H5.out.1.then HK.out (by simp)
      have HNW := Lib.hid (new_law [] 0 9007199254740991 5 5 w wr KW HSZ.out (by simp) (by decide) (by decide) (by decide) (by decide))
      clear KW
      go_upto_region 16 with (first
        | (go_at_call 9; (with_reducible refine HNW.out.mono ?_); rintro e w6 ⟨p, q, rfl, h6, _, _, _⟩; have HA := Lib.hid (show lawQ w [] w6 p q knS0 from h6); clear h6)
        | (go_at_call 20; (with_reducible refine (HC1.out _).mono ?_); rintro e w7 ⟨rfl, k7⟩; have HB := Lib.hid (HA.out.over k7); clear k7)
        | (go_at_call 19; (with_reducible refine (kn_asks HB.out HG1.out kn_e1 (by decide)).mono ?_); rintro e w8 ⟨rfl, h8, _⟩; have HCq := Lib.hid h8; clear h8))
      go_upto_region 18 with (first
        | (go_at_call 17; rw [ansCells]; (refine (HCq.out.take (ansK_val 20 0 9007199254740991 _) (by simp) (by show (0 : Nat) ≤ 1000000; omega) (by show (0 : Nat) ≤ 1000000; omega) kn_e2).mono ?_); rintro e w9 ⟨av, G', rfl, _, _, h9, _⟩; have HDq := Lib.hid h9; obtain ⟨N9, hN9⟩ : ∃ N, anL (⟨0, 9007199254740991, 0, 0, 0, List.replicate 32 0, []⟩ : AN) av = N := ⟨_, rfl⟩; rw [hN9]; clear h9 hN9)
        | (go_at_call 20; (with_reducible refine (HC1.out _).mono ?_); rintro e w10 ⟨rfl, k10⟩; have HEq := Lib.hid (HDq.out.over k10); clear k10)
        | (go_at_call 19; (with_reducible refine (kn_asks HEq.out HG1.out kn_e3 (by decide)).mono ?_); rintro e w11 ⟨rfl, h11, _⟩; have HFq := Lib.hid h11; clear h11)
        | (go_at_call 15; (with_reducible refine (HFq.out.num kn_e4).mono ?_); rintro e w12 ⟨rfl, rfl⟩))
      obtain ⟨ZA, hZA⟩ : ∃ ZA, anL anZero nilV = ZA := ⟨_, rfl⟩
      have HZA := Lib.hid (show (Tryd.prog.info? 39).bind (·.zero) = some (.agg ZA.toArray) ∧ ZA.length = 38 ∧ ∀ u ∈ ZA, u.oneCell' = true by rw [← hZA]; exact ⟨zv_an, anZ_len, anZ_one⟩)
      have HTN := Lib.hid (show ∀ v W, (∀ w', keepBut [] W w' → NoneAt v w') → ∀ cvv, Calls Tryd.prog 17 #[v, .agg (pkL (confK 20 1 [10]) nilV nilV cvv nilV nilV).toArray] W fun e w' => e = .returned (.tuple #[.agg ZA.toArray, .bool false]) ∧ keepBut [] W w' by
        intro v W hv cvv
        rw [← hZA]
        exact takeN_any v W hv (confK 20 1 [10]) nilV nilV cvv nilV nilV (pkL_len rqZero_name anZero_name))
      clear hZA
      go_upto_region 20 with fail
      go_loopw [9, 10] (fun v9 v10 wx => ∃ i : Nat, i ≤ 2 ∧ v10 = .int .i64 (i : Int) ∧ Hid (keepBut [] w wx ∧ ∀ w', keepBut [] wx w' → NoneAt v9 w')) (fun _ v10 _ => 2 - (intOf v10).toNat)
      case atStart => exact ⟨0, by omega, rfl, Lib.hid ⟨HFq.out.kept, fun w' _ => none_nil w'⟩⟩
      case round =>
        obtain ⟨i, hil2, rfl, HL⟩ := hrel
        by_cases hlt2 : i < 2
        · have hi2 : (i : Int) < 2 := by omega
          have hi0 : (0 : Int) ≤ (i : Int) := by omega
          have hwi : IntKind.i64.wrap ((i : Int) + 1) = (i : Int) + 1 := by rw [IntKind.wrap_i64]; omega
          have HCF := Lib.hid (confF_any 20 1 [10] _ [wr.heap.size] _ (ints1K wr 10))
          have kI := (keepBut.refl [] wr).alloc (.cells #[Value.int .i64 10] 3)
          have HKI := Lib.hid kI
          clear kI
          go_upto_region 23 with (first
            | (go_at_call 21; (with_reducible refine HCF.out.mono ?_); rintro e wA ⟨rfl, kA⟩; have HKA := Lib.hid (HKI.out.then kA (by simp)); clear kA)
            | (go_at_call 17; (with_reducible refine (HTN.out _ _ (fun w' hk => HL.out.2 w' (HKA.out.then hk (by simp))) _).mono ?_); rintro e wB ⟨rfl, kB⟩; have HKB := Lib.hid (HKA.out.then kB (by simp)); clear kB)
            | (with_reducible refine wpList_alloc_to _ _ rfl 39 rfl _ HZA.out.1 rfl ?_)
            | (refine wpList_store_mid rfl 39 (.tmp 11) (.tmp 84) rfl wB.heap.size 0 ZA.toArray rfl rfl (there_newP rfl) (by rw [List.size_toArray, HZA.out.2.1]; exact info_anS) (by simpa using HZA.out.2.2) ?_))
          have hsB := storedP (w := wB) (t := 39) (Z := ZA) (X := ZA) rfl
          have kC := HKB.out.then hsB.2 (by simp)
          generalize (wB.alloc (.cells ZA.toArray 39)).setCells wB.heap.size 0 ZA = wC at kC ⊢
          have HKC := Lib.hid kC
          clear hsB kC
          have hf0 := fldC0
          go_wp2_with (first
            | (go_at_call 20; (with_reducible refine (HC1.out _).mono ?_); rintro e wD ⟨rfl, kD⟩; have HKD := Lib.hid (HKC.out.then kD (by simp)); clear kD)
            | (go_at_call 19; (with_reducible refine (kn_asksN _ _ (fun w' hk => HL.out.2 w' (HKD.out.then hk (by simp))) HG1.out).mono ?_); rintro e wE ⟨rfl, kE⟩; have HKE := Lib.hid (HKD.out.then kE (by simp)); clear kE)
            | (go_at_call 24; (with_reducible refine (tickN_any _ _ (fun w' hk => HL.out.2 w' (HKE.out.then hk (by simp)))).mono ?_); rintro e w' ⟨rfl, rfl⟩)
            | (go_at_call 18; (with_reducible refine (waitsN_any _ _ (fun w' hk => HL.out.2 w' (HKE.out.then hk (by simp)))).mono ?_); rintro e w' ⟨rfl, rfl⟩)
            | (go_at_call 25; (with_reducible refine (lateN_any _ _ (fun w' hk => HL.out.2 w' (HKE.out.then hk (by simp)))).mono ?_); rintro e w' ⟨rfl, rfl⟩)
            | (go_at_call 15; (with_reducible refine (numN_any _ _ (fun w' hk => HL.out.2 w' (HKE.out.then hk (by simp)))).mono ?_); rintro e w' ⟨rfl, rfl⟩)
            | (go_at_call 22; (with_reducible refine (confN_any _ _ (fun w' hk => HL.out.2 w' (HKE.out.then hk (by simp)))).mono ?_); rintro e wF ⟨rfl, kF⟩; have HKF := Lib.hid (HKE.out.then kF (by simp)); clear kF))
          go_roundw
          case rel => exact ⟨i + 1, by omega, by go_num, Lib.hid ⟨(HL.out.1.then HKF.out (by simp)).alloc _, fun w' hk => none_zero w' _ (((hk.row (rowAt.new wF _ _) (by simp)).cell 3).trans rfl)⟩⟩
          case measure => simp only [intOf]; omega
        · obtain rfl : i = 2 := by omega
          have HWK := Lib.hid (worksQ_any wr (HSZ.out.keep HL.out.1 (by simp)))
          go_wp2_with (first
            | (go_at_call 13; (with_reducible refine HWK.out.mono ?_); rintro e w7 ⟨rfl, k7⟩; have H7 := Lib.hid k7; clear k7))
          go_ret
          exact ⟨rfl, HL.out.1.then H7.out (by simp)⟩
end Go.Proofs.YtkpmlcgbffdloaaDoor
