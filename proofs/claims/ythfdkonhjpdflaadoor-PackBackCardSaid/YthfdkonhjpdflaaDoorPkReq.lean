/-
  PKREQ: Pk38, Pk39, PkMade, Pk40, joined.
-/
import Derived.Test.YthfdkonhjpdflaaDoorPkEnd
section
namespace Go.Proofs.YthfdkonhjpdflaaDoor
open Go.RowKit
set_option linter.unusedVariables false
set_option maxRecDepth 100000
set_option linter.unusedSimpArgs false

def nodesI : List Int := [0, 1, 2, 10, 11, 12, 13, 20, 21, 22]
set_option maxHeartbeats 1000000 in
theorem nodes_any (w : World) :
    Calls Tryd.prog 23 #[] w fun e w' => ∃ g, e = .returned (.slice (some ⟨g, 0, none⟩) 10 10) ∧ rowAt w' g 3 (nodesI.map (Value.int .i64)).toArray ∧ keepBut [] w w' ∧ w.heap.size ≤ g := by
  go_enter Tryd.func23, Tryd.ntmps23
  go_wp2
  go_ret
  exact ⟨w.heap.size, rfl, rowAt.new _ _ _, (keepBut.refl [] _).alloc _, Nat.le_refl _⟩
theorem nmOf_step {b : List UInt8} {i : Nat} {x : UInt8} (h : b[i]? = some x) (hi : i < 32) : (nameL (nmOf (b.take i))).set i (bv x) = nameL (nmOf (b.take (i + 1))) := by
  obtain ⟨hlt, hx⟩ := List.getElem?_eq_some_iff.1 h
  unfold nameL nmOf
  rw [List.take_add_one, h]
  have e : List.replicate (32 - (b.take i).length) (0 : UInt8) = 0 :: List.replicate (32 - (i + 1)) 0 := by
    rw [List.length_take, show 32 - min i b.length = (32 - (i + 1)) + 1 by omega]; rfl
  rw [e]
  simp only [Option.toList_some, List.length_append, List.length_take, List.length_cons, List.length_nil]
  rw [show 32 - (min i b.length + (0 + 1)) = 32 - (i + 1) by omega, List.map_append, List.map_append, List.map_append]
  rw [List.set_append_right _ _ (by simp; omega)]
  simp [show i - min i b.length = 0 by omega]
theorem nmOf_past {b : List UInt8} {i : Nat} (h : b.length ≤ i ∨ 32 ≤ i) (hi : i ≤ 32) : nmOf (b.take i) = nmOf (b.take 32) := by
  rcases h with h | h
  · rw [List.take_of_length_le h, List.take_of_length_le (show b.length ≤ 32 by omega)]
  · rw [show i = 32 by omega]
set_option maxHeartbeats 4000000 in
theorem name_any (F : List Nat) (b : List UInt8) (v : Value) (w : World) (h : bytesV w F v b) :
    Calls Tryd.prog 25 #[v] w fun e w' => e = .returned (.agg (nameL (nmOf (b.take 32))).toArray) ∧ keepBut [] w w' := by
  obtain ⟨A, c, g, rfl, hc, hm, hs, _⟩ := h
  have hmx : b.length ≤ 9223372036854775807 := by unfold maxLen at hm; omega
  obtain ⟨Z, hZ⟩ : ∃ Z, nameL (List.replicate 32 0) = Z := ⟨_, rfl⟩
  have zl : Z.length = 32 := by rw [← hZ, nameL_len, List.length_replicate]
  have zv := zv_nm
  have z0 : nameL (nmOf (b.take 0)) = Z := by rw [← hZ]; rfl
  rw [hZ] at zv
  obtain ⟨wA, hwA⟩ : ∃ wA, w.alloc (.cells Z.toArray 28) = wA := ⟨_, rfl⟩
  obtain ⟨wB, hwB⟩ : ∃ wB, wA.alloc (.cells Z.toArray 28) = wB := ⟨_, rfl⟩
  have rA := rowAt.new w 28 Z.toArray
  have rB := rowAt.new wA 28 Z.toArray
  have kA := (keepBut.refl [] w).alloc (.cells Z.toArray 28)
  have kB := (keepBut.refl [] wA).alloc (.cells Z.toArray 28)
  rw [hwA] at rA kA
  rw [hwB] at rB kB
  have rA3 := kB.row rA (by simp)
  have kk := kA.then kB (by simp)
  have hlA : w.heap.size < wA.heap.size := rA.lt
  have HW := Lib.hid (And.intro hwA (And.intro hwB zv))
  have HR := Lib.hid (And.intro rA3 (And.intro rB (And.intro kk (And.intro hlA (And.intro zl z0)))))
  have HS := Lib.hid hs
  clear hwA hwB zv rA rB kA kB rA3 kk hlA zl z0 hZ hs hc hm
  go_enter Tryd.func25, Tryd.ntmps25
  go_upto_region 3 with (first
    | (with_reducible refine wpList_alloc_to _ _ rfl 28 rfl _ HW.out.2.2 HW.out.1 ?_)
    | (with_reducible refine wpList_alloc_to _ _ rfl 28 rfl _ HW.out.2.2 HW.out.2.1 ?_))
  go_loopw [4] (fun v4 wx => ∃ i : Nat, i ≤ b.length ∧ i ≤ 32 ∧ v4 = .int .i64 (i : Int) ∧ rowAt wx w.heap.size 28 Z.toArray ∧ rowAt wx wA.heap.size 28 (nameL (nmOf (b.take i))).toArray ∧ keepBut [] w wx) (fun v4 _ => 32 - (intOf v4).toNat)
  case atStart => exact ⟨0, by omega, by omega, rfl, HR.out.1, by rw [HR.out.2.2.2.2.2]; exact HR.out.2.1, HR.out.2.2.1⟩
  case round =>
    obtain ⟨i, hi, hi2, rfl, r1, r2, hk⟩ := hrel
    have hw1 : IntKind.i64.wrap ((i : Int) + 1) = (i : Int) + 1 := wraps_i64 _ (by omega) (by omega)
    by_cases hlt : i < b.length
    · have hlt' : (i : Int) < (b.length : Int) := by omega
      by_cases h32 : i < 32
      · have h32' : (i : Int) < 32 := by omega
        obtain ⟨x, hx⟩ : ∃ x, b[i]? = some x := ⟨_, List.getElem?_eq_getElem hlt⟩
        obtain ⟨o, rfl, hgl, hcA⟩ := HS.out (by intro e; subst e; simp at hlt)
        have y0 : wr.cell? ⟨g, o + i, none⟩ = some (.int .u8 (x.toNat : Int)) := (hk.cell (p := ⟨g, o + i, none⟩) hgl (by simp)).trans (hcA i x hx)
        have y1 : wr.cell? ⟨wA.heap.size, i, none⟩ = some (.int .u8 (((nmOf (b.take i))[i]?.getD 0).toNat : Int)) := by
          have hl : i < (nmOf (b.take i)).length := by rw [nmOf_len (by rw [List.length_take]; omega)]; exact h32
          rw [r2.cell i]
          unfold nameL
          simp [hl, bv]
        have y2 := r2.free i
        have HK := Lib.hid (And.intro r1 (And.intro r2 (And.intro hk (nmOf_step hx h32))))
        clear r1 r2 hk hcA hx
        go_wp2_with fail
        have R2 := HK.out.2.1.set i (.int .u8 (x.toNat : Int))
        have R1 := (kset wr wA.heap.size i (.int .u8 (x.toNat : Int))).row HK.out.1 (by simp; have := HR.out.2.2.2.1; omega)
        have K1 := HK.out.2.2.1.setCell ⟨wA.heap.size, i, none⟩ (.int .u8 (x.toNat : Int)) (.inr (by have := HR.out.2.2.2.1; simp; omega))
        have HJ := Lib.hid (And.intro R1 (And.intro R2 K1))
        clear R1 R2 K1
        go_roundw
        case rel =>
          refine ⟨i + 1, by omega, by omega, by go_num, HJ.out.1, ?_, HJ.out.2.2⟩
          rw [← HK.out.2.2.2]
          simpa [bv] using HJ.out.2.1
        case measure => simp [intOf]; omega
      · have h32' : ¬ (i : Int) < 32 := by omega
        have r1' := Lib.hid (And.intro r1 (And.intro r2 hk))
        have hN : nmOf (b.take i) = nmOf (b.take 32) := nmOf_past (by omega) hi2
        have hnl : (nameL (nmOf (b.take 32))).length = 32 := by rw [nameL_len, nmOf_len (by rw [List.length_take]; omega)]
        rw [hN] at r2
        have rs := r1.setL (vs := nameL (nmOf (b.take 32))) (o := 0)
        rw [putL_all (by rw [hnl, List.size_toArray]; exact HR.out.2.2.2.2.1.symm)] at rs
        have kf := hk.setL (vs := nameL (nmOf (b.take 32))) (g := w.heap.size) (o := 0) (.inr (Nat.le_refl _))
        have ht := r1.there (o := 0) (n := (nameL (nmOf (b.take 32))).toArray.size) (by simp only [List.size_toArray]; have := HR.out.2.2.2.2.1; omega)
        have hI : (Tryd.prog.info? 28).map (·.size) = some (nameL (nmOf (b.take 32))).length := by rw [hnl]; exact infoName
        have hJ : (Tryd.prog.info? 28).map (·.size) = some (nameL (nmOf (b.take 32))).toArray.size := by rw [List.size_toArray]; exact hI
        have HT := Lib.hid (And.intro r2.rangeAll (And.intro rs (And.intro ht (And.intro hI (And.intro hJ kf)))))
        have HO := Lib.hid (all_oneCell_toArray (nameL_one (nmOf (b.take 32))))
        clear r1 r2 hk rs kf ht hI hJ hnl hN
        go_wp2_with (first
          | (refine wpList_load_mid rfl 28 (.tmp 3) rfl wA.heap.size 0 rfl _ _ HT.out.1 Tryd.underlying28 rfl HT.out.2.2.2.1 ?_)
          | (refine wpList_store_mid rfl 28 (.tmp 2) (.tmp 21) rfl w.heap.size 0 (nameL (nmOf (b.take 32))).toArray rfl rfl HT.out.2.2.1 HT.out.2.2.2.2.1 HO.out ?_))
        refine bodyPost_ret (results_cell_row rfl _ _ w.heap.size 28 _ (0, 0) _ rfl HT.out.2.1 Tryd.underlying28 rfl HT.out.2.2.2.2.1) rfl ?_
        exact ⟨rfl, HT.out.2.2.2.2.2⟩
    · have hlt' : ¬ (i : Int) < (b.length : Int) := by omega
      have r1' := Lib.hid (And.intro r1 (And.intro r2 hk))
      have hN : nmOf (b.take i) = nmOf (b.take 32) := nmOf_past (by omega) hi2
      have hnl : (nameL (nmOf (b.take 32))).length = 32 := by rw [nameL_len, nmOf_len (by rw [List.length_take]; omega)]
      rw [hN] at r2
      have rs := r1.setL (vs := nameL (nmOf (b.take 32))) (o := 0)
      rw [putL_all (by rw [hnl, List.size_toArray]; exact HR.out.2.2.2.2.1.symm)] at rs
      have kf := hk.setL (vs := nameL (nmOf (b.take 32))) (g := w.heap.size) (o := 0) (.inr (Nat.le_refl _))
      have ht := r1.there (o := 0) (n := (nameL (nmOf (b.take 32))).toArray.size) (by simp only [List.size_toArray]; have := HR.out.2.2.2.2.1; omega)
      have hI : (Tryd.prog.info? 28).map (·.size) = some (nameL (nmOf (b.take 32))).length := by rw [hnl]; exact infoName
      have hJ : (Tryd.prog.info? 28).map (·.size) = some (nameL (nmOf (b.take 32))).toArray.size := by rw [List.size_toArray]; exact hI
      have HT := Lib.hid (And.intro r2.rangeAll (And.intro rs (And.intro ht (And.intro hI (And.intro hJ kf)))))
      have HO := Lib.hid (all_oneCell_toArray (nameL_one (nmOf (b.take 32))))
      clear r1 r2 hk rs kf ht hI hJ hnl hN
      go_wp2_with (first
        | (refine wpList_load_mid rfl 28 (.tmp 3) rfl wA.heap.size 0 rfl _ _ HT.out.1 Tryd.underlying28 rfl HT.out.2.2.2.1 ?_)
        | (refine wpList_store_mid rfl 28 (.tmp 2) (.tmp 21) rfl w.heap.size 0 (nameL (nmOf (b.take 32))).toArray rfl rfl HT.out.2.2.1 HT.out.2.2.2.2.1 HO.out ?_))
      refine bodyPost_ret (results_cell_row rfl _ _ w.heap.size 28 _ (0, 0) _ rfl HT.out.2.1 Tryd.underlying28 rfl HT.out.2.2.2.2.1) rfl ?_
      exact ⟨rfl, HT.out.2.2.2.2.2⟩
end Go.Proofs.YthfdkonhjpdflaaDoor
end

section
namespace Go.Proofs.YthfdkonhjpdflaaDoor
open Go.RowKit
set_option linter.unusedVariables false
set_option maxRecDepth 100000
set_option linter.unusedSimpArgs false

def chM (m k : Nat) : List Int := (List.range k).map fun i => ((10 + (m / 4 + i) % 4 : Nat) : Int)
def cfM (a : Int) (m : Nat) : CF := ⟨a, ((1 + m / 16 % (1 + m % 4) : Nat) : Int), chM m (1 + m % 4)⟩
theorem chM_len (m k : Nat) : (chM m k).length = k := by simp [chM]
theorem chM_step (m k : Nat) : chM m (k + 1) = chM m k ++ [((10 + (m / 4 + k) % 4 : Nat) : Int)] := by simp [chM, List.range_succ]
theorem chM_ok (m k : Nat) (h : k ≤ 4) : chainB [] (chM m k) = true := by
  have e : chM m k = (List.range k).map fun i => ((10 + (m / 4 % 4 + i) % 4 : Nat) : Int) := by
    unfold chM
    apply List.map_congr_left
    intro i _
    rw [show (m / 4 + i) % 4 = (m / 4 % 4 + i) % 4 by omega]
  rw [e]
  have hc : m / 4 % 4 < 4 := by omega
  generalize m / 4 % 4 = c at hc
  clear e
  have hcs : c = 0 ∨ c = 1 ∨ c = 2 ∨ c = 3 := by omega
  have hks : k = 0 ∨ k = 1 ∨ k = 2 ∨ k = 3 ∨ k = 4 := by omega
  rcases hcs with rfl | rfl | rfl | rfl <;> rcases hks with rfl | rfl | rfl | rfl | rfl <;> decide
theorem cfM_ok (a : Int) (m : Nat) (h : 0 ≤ a ∧ a < 1125899906842624) : (cfM a m).ok = true := by
  have hm : m % 4 < 4 := Nat.mod_lt _ (by omega)
  have hf : m / 16 % (1 + m % 4) < 1 + m % 4 := Nat.mod_lt _ (by omega)
  unfold CF.ok cfM
  simp only [chM_len]
  rw [inP_yes (by omega), inP_yes (by constructor <;> omega), chM_ok m _ (by omega)]
  simp
  omega
/-- the configuration under the loop -/
def confAt (w0 wx : World) (tb : Nat) (a : Int) (m : Nat) (Z : List Value) (i : Nat) : Prop :=
  ∃ A c, rowAt wx tb 35 (cfL ⟨a, 0, []⟩ (.slice A i c)).toArray ∧ rowAt wx w0.heap.size 35 Z.toArray ∧ owns wx 3 1 (.slice A i c) i ((chM m i).map (Value.int .i64)) ∧ (∀ y ∈ homes (.slice A i c), tb < y) ∧ keepBut [] w0 wx
set_option maxHeartbeats 8000000 in
theorem conf_any (x y : Int) (hx : i64P x) (hy : i64P y) (m : Nat) (hm : y % 1048576 = (m : Int)) (w : World) :
    Calls Tryd.prog 26 #[.int .i64 x, .int .i64 y] w fun e w' => ∃ ev G, e = .returned (.agg (cfL (cfM (x % 1125899906842624) m) ev).toArray) ∧ intsV w' G ev (cfM (x % 1125899906842624) m).chain ∧ newIn w w' G ∧ keepBut [] w w' := by
  have hmlt : m < 1048576 := by omega
  obtain ⟨a, ha⟩ : ∃ a, x % 1125899906842624 = a := ⟨_, rfl⟩
  rw [ha]
  obtain ⟨Z, hZ⟩ : ∃ Z, cfL cfZero nilV = Z := ⟨_, rfl⟩
  have zv := zv_cf
  have zl : Z.length = 3 := by rw [← hZ]; rfl
  rw [hZ] at zv
  have hL1 : cfL ⟨a, 0, []⟩ nilV = [Value.int .i64 a, .int .i64 0, .slice none 0 0] := rfl
  obtain ⟨L1, hLe⟩ : ∃ L : List Value, [Value.int .i64 a, .int .i64 0, .slice none 0 0] = L := ⟨_, rfl⟩
  rw [hLe] at hL1
  have ll : L1.length = 3 := by rw [← hL1]; rfl
  have lo : ∀ u ∈ L1, u.oneCell' = true := by rw [← hL1]; exact cfL_one _ rfl
  obtain ⟨wA, hwA⟩ : ∃ wA, w.alloc (.cells Z.toArray 35) = wA := ⟨_, rfl⟩
  obtain ⟨wB, hwB⟩ : ∃ wB, wA.alloc (.cells Z.toArray 35) = wB := ⟨_, rfl⟩
  have rA := rowAt.new w 35 Z.toArray
  have rB := rowAt.new wA 35 Z.toArray
  have kA := (keepBut.refl [] w).alloc (.cells Z.toArray 35)
  have kB := (keepBut.refl [] wA).alloc (.cells Z.toArray 35)
  rw [hwA] at rA kA
  rw [hwB] at rB kB
  have rA3 := kB.row rA (by simp)
  have kk := kA.then kB (by simp)
  have hlA : w.heap.size < wA.heap.size := rA.lt
  have rs := rB.setL (vs := L1) (o := 0)
  rw [putL_all (by rw [ll, List.size_toArray]; exact zl.symm)] at rs
  have ks := (keepBut.refl [wA.heap.size] wB).setL (vs := L1) (g := wA.heap.size) (o := 0) (by simp)
  have kf := kk.setL (vs := L1) (g := wA.heap.size) (o := 0) (.inr (by omega))
  have r0 := ks.row rA3 (by simp; omega)
  have ht := rB.there (o := 0) (n := L1.toArray.size) (by simp only [List.size_toArray]; omega)
  have hI : (Tryd.prog.info? 35).map (·.size) = some L1.toArray.size := by rw [List.size_toArray, ll]; exact info_cf
  obtain ⟨wC, hwC⟩ : ∃ wC, wB.setCells wA.heap.size 0 L1 = wC := ⟨_, rfl⟩
  rw [hwC] at rs ks kf r0
  have HW := Lib.hid (And.intro hwA (And.intro hwB zv))
  have ho := all_oneCell_toArray lo
  subst hLe
  have HT := Lib.hid (And.intro ht (And.intro hI ho))
  have HC := Lib.hid hwC
  have HR := Lib.hid (And.intro rs (And.intro r0 (And.intro kf (And.intro hlA (And.intro zl hL1)))))
  have HA := Lib.hid ha
  have HM := Lib.hid hm
  clear hwA hwB zv rA rB kA kB rA3 kk hlA zl hZ ll lo ho hL1 rs ks kf r0 ht hI hwC ha hm
  obtain ⟨i0, hi0, hz0, hz1, hz2⟩ := info_parts infoIntd
  have HI := Lib.hid (And.intro hi0 (And.intro hz0 (And.intro hz1 hz2)))
  clear hi0 hz0 hz1 hz2
  go_enter Tryd.func26, Tryd.ntmps26
  go_upto_region 2 with (first
    | (with_reducible refine wpList_alloc_to _ _ rfl 35 rfl _ HW.out.2.2 HW.out.1 ?_)
    | (with_reducible refine wpList_alloc_to _ _ rfl 35 rfl _ HW.out.2.2 HW.out.2.1 ?_)
    | (go_at_call 20; refine (bring_any x 1125899906842624 hx.1 hx.2 (by omega) (by omega) _).mono ?_; rintro e w1 ⟨rfl, rfl⟩; rw [HA.out])
    | (refine wpList_store_mid rfl 35 (.tmp 5) (.tmp 9) rfl wA.heap.size 0 [Value.int .i64 a, .int .i64 0, .slice none 0 0].toArray rfl rfl HT.out.1 HT.out.2.1 HT.out.2.2 ?_))
  rw [show wB.setCells wA.heap.size 0 ([Value.int .i64 a, .int .i64 0, .slice none 0 0].toArray).toList = wC from HC.out]
  obtain ⟨tb, htb⟩ : ∃ tb, wA.heap.size = tb := ⟨_, rfl⟩
  have HR2 := Lib.hid (show rowAt wC tb 35 (cfL ⟨a, 0, []⟩ nilV).toArray ∧ rowAt wC w.heap.size 35 Z.toArray ∧ keepBut [] w wC ∧ w.heap.size < tb ∧ Z.length = 3 by rw [← htb]; have h := HR.out; exact ⟨h.2.2.2.2.2.symm ▸ h.1, h.2.1, h.2.2.1, h.2.2.2.1, h.2.2.2.2.1⟩)
  rw [htb]
  clear HW HT HC HR htb
  go_upto_region 3 with (go_at_call 20; refine (bring_any y 1048576 hy.1 hy.2 (by omega) (by omega) _).mono ?_; rintro e w1 ⟨rfl, rfl⟩; rw [HM.out])
  obtain ⟨K, hK⟩ : ∃ K, 1 + m % 4 = K := ⟨_, rfl⟩
  have hK4 : K ≤ 4 := by omega
  have ht4 : (m : Int).tmod 4 = ((m % 4 : Nat) : Int) := by rw [Int.tmod_eq_emod_of_nonneg (by omega)]; omega
  have hq4 : (m : Int).tdiv 4 = ((m / 4 : Nat) : Int) := by rw [Int.tdiv_eq_ediv_of_nonneg (by omega)]; omega
  have hwK : IntKind.i64.wrap (1 + ((m % 4 : Nat) : Int)) = (K : Int) := by rw [wraps_i64 _ (by omega) (by omega)]; omega
  go_wp2_with fail
  go_loopw [6] (fun v6 wx => ∃ i : Nat, i ≤ K ∧ v6 = .int .i64 (i : Int) ∧ confAt w wx tb a m Z i) (fun v6 _ => K - (intOf v6).toNat)
  case atStart => exact ⟨0, by omega, rfl, none, 0, HR2.out.1, HR2.out.2.1, owns.nil _ _ _, by simp [homes_none], HR2.out.2.2.1⟩
  case round =>
    obtain ⟨i, hi, rfl, A, c, hP, hP0, hO, hH, hk⟩ := hrel
    by_cases hlt : i < K
    · have hlt' : (i : Int) < 1 + (m : Int) % 4 := by omega
      have hw1 : IntKind.i64.wrap ((i : Int) + 1) = (i : Int) + 1 := wraps_i64 _ (by omega) (by omega)
      have hn0 : (0 : Int) ≤ (i : Int) := by omega
      have ht5 : ((m : Int) / 4 + (i : Int)).tmod 4 = ((m : Int) / 4 + (i : Int)) % 4 := Int.tmod_eq_emod_of_nonneg (by omega)
      have c2 : wr.cell? ⟨tb, 2, none⟩ = some (.slice A i c) := (hP.cell 2).trans rfl
      have hbnd : (0 : Int) ≤ ((m : Int) / 4 + (i : Int)) % 4 ∧ ((m : Int) / 4 + (i : Int)) % 4 ≤ 3 := by omega
      have HP := Lib.hid (And.intro hP (And.intro hP0 (And.intro hO (And.intro hH hk))))
      clear hP hP0 hO hH hk
      go_wp2_with (at_builtin; refine wp_append _ rfl (.tmp 20) (.tmp 27) 33 rfl 3 i0 (.int .i64 0) 1 8 Tryd.underlying33 HI.out.1 HI.out.2.1 HI.out.2.2.1 HI.out.2.2.2 rfl (by decide) (.slice A i c) i ((chM m i).map (Value.int .i64)) rfl (HP.out.2.2.1.keep ((keepBut.refl [] wr).alloc _) (by simp)) (some ⟨wr.heap.size, 0, none⟩) wr.heap.size 1 1 [.int .i64 (10 + ((m : Int) / 4 + (i : Int)) % 4)] rfl (reads_one wr 3 _) (by intro u hu; simp at hu; subst hu; rfl) (by omega) (by unfold maxLen; omega) ?_; intro A6 c6 w6 hown6 hkb6 hloc6; have k6 := Lib.hid ((((keepBut.refl [] wr).alloc (.cells #[.int .i64 (10 + ((m : Int) / 4 + (i : Int)) % 4)] 3)).more (by simp)).then hkb6 (fun x hx => .inl hx)); have r6 := Lib.hid (k6.out.row HP.out.1 (fun hm => Nat.lt_irrefl _ (HP.out.2.2.2.1 _ hm))); have c4 : w6.cell? ⟨tb, 2, none⟩ = some (.slice A i c) := (r6.out.cell 2).trans rfl; have f4 := r6.out.free 2; have O6 := Lib.hid (And.intro hown6 hloc6); clear hown6 hkb6 hloc6 c2)
      have HT := Lib.hid (show confAt w (w6.setCell ⟨tb, 2, none⟩ (.slice A6 (i + 1) c6)) tb a m Z (i + 1) by
        have hgt : ∀ x ∈ homes (.slice A6 (i + 1) c6), tb < x := fun x hx => by
          rcases O6.out.2 x hx with h | h
          · exact HP.out.2.2.2.1 x h
          · have h1 := HP.out.1.lt; have h2 := ((keepBut.refl [] wr).alloc (.cells #[.int .i64 (10 + ((m : Int) / 4 + (i : Int)) % 4)] 3)).size; omega
        refine ⟨A6, c6, r6.out.set 2 _, (kset w6 tb 2 _).row (k6.out.row HP.out.2.1 (fun hm => by have h1 := HP.out.2.2.2.1 _ hm; have h2 := HR2.out.2.2.2.1; omega)) (by simp; have := HR2.out.2.2.2.1; omega), ?_, hgt, (HP.out.2.2.2.2.then k6.out (fun x hx => .inr (by have h1 := HP.out.2.2.2.1 _ hx; have h2 := HR2.out.2.2.2.1; omega))).setCell ⟨tb, 2, none⟩ _ (.inr (by have h2 := HR2.out.2.2.2.1; simp; omega))⟩
        have e : (chM m (i + 1)).map (Value.int .i64) = (chM m i).map (Value.int .i64) ++ [.int .i64 (10 + ((m : Int) / 4 + (i : Int)) % 4)] := by rw [chM_step, List.map_append]; congr 1
        rw [e]
        exact O6.out.1.keep (kset w6 tb 2 _) (fun x hx => by have := hgt x hx; simp; omega))
      clear c4 f4
      go_roundw
      case rel => exact ⟨i + 1, by omega, by go_num, HT.out⟩
      case measure => simp [intOf]; omega
    · have hlt' : ¬ (i : Int) < 1 + (m : Int) % 4 := by omega
      obtain rfl : i = K := by omega
      have hi0 : (i : Int) ≠ 0 := by omega
      obtain ⟨f, hf⟩ : ∃ f : Nat, m / 16 % i = f := ⟨_, rfl⟩
      have hfl : f < i := by rw [← hf]; exact Nat.mod_lt _ (by omega)
      have hq16 : (m : Int).tdiv 16 = (m : Int) / 16 := Int.tdiv_eq_ediv_of_nonneg (by omega)
      have ht16 : ((m : Int) / 16).tmod (i : Int) = (f : Int) := by
        rw [Int.tmod_eq_emod_of_nonneg (by omega), ← hf]
        push_cast
        rfl
      have hwf : IntKind.i64.wrap (1 + (f : Int)) = 1 + (f : Int) := wraps_i64 _ (by omega) (by omega)
      have c2 : wr.cell? ⟨tb, 2, none⟩ = some (.slice A i c) := (hP.cell 2).trans rfl
      have c1 : wr.cell? ⟨tb, 1, none⟩ = some (.int .i64 0) := (hP.cell 1).trans rfl
      have f1 := hP.free 1
      have hcf : cfM a m = ⟨a, 1 + (f : Int), chM m i⟩ := by unfold cfM; rw [hK, hf]; push_cast; rfl
      have rs := (hP.set 1 (.int .i64 (1 + (f : Int))))
      have e1 : (cfL ⟨a, 0, []⟩ (.slice A i c)).toArray.setIfInBounds 1 (.int .i64 (1 + (f : Int))) = (cfL ⟨a, 1 + (f : Int), chM m i⟩ (.slice A i c)).toArray := by simp [cfL]
      rw [e1] at rs
      have k1 := kset wr tb 1 (.int .i64 (1 + (f : Int)))
      have r0 := k1.row hP0 (by simp; have := HR2.out.2.2.2.1; omega)
      have kw := hk.setCell ⟨tb, 1, none⟩ (.int .i64 (1 + (f : Int))) (.inr (by have h2 := HR2.out.2.2.2.1; simp; omega))
      have hiv : intsV wr (homes (.slice A i c)) (.slice A i c) (chM m i) := by
        obtain ⟨A3, c3, e3, h31, h32, h33, h34⟩ := hO.form
        injection e3 with e3a e3b e3c
        subst e3a e3c
        obtain ⟨g3, hg3⟩ := homes_one (.slice A i c)
        have hl := chM_len m i
        refine ⟨A, c, g3, by rw [hl], by rw [hl]; exact h31, h32, by rw [hl]; exact h34 g3 hg3, fun hne => ?_⟩
        obtain ⟨o, hA, _⟩ := (h34 g3 hg3).2 (by omega)
        rw [hA]; simp [homes_some]
      have hiv2 := hiv.keep k1 (fun y hy => by have := hH y hy; simp; omega)
      have hlt2 : ∀ y ∈ homes (.slice A i c), tb < y ∧ y < wr.heap.size := fun y hy => ⟨hH y hy, hO.lt y hy⟩
      have HV := Lib.hid (And.intro hiv2 (And.intro hlt2 hcf))
      obtain ⟨wS, hwS⟩ : ∃ wS, wr.setCell ⟨tb, 1, none⟩ (.int .i64 (1 + (f : Int))) = wS := ⟨_, rfl⟩
      rw [hwS] at rs k1 r0 kw
      have HV : Hid (intsV wS (homes (.slice A i c)) (.slice A i c) (chM m i) ∧ (∀ y ∈ homes (.slice A i c), tb < y ∧ y < wr.heap.size) ∧ cfM a m = ⟨a, 1 + (f : Int), chM m i⟩) := Lib.hid (by rw [← hwS]; exact HV.out)
      obtain ⟨XL, hXL⟩ : ∃ XL, cfL ⟨a, 1 + (f : Int), chM m i⟩ (.slice A i c) = XL := ⟨_, rfl⟩
      have xl : XL.length = 3 := by rw [← hXL]; rfl
      have xo : ∀ u ∈ XL, u.oneCell' = true := by rw [← hXL]; exact cfL_one _ rfl
      rw [hXL] at rs
      have rr := r0.setL (vs := XL) (o := 0)
      rw [putL_all (by rw [xl, List.size_toArray]; exact HR2.out.2.2.2.2.symm)] at rr
      have ht := r0.there (o := 0) (n := XL.toArray.size) (by simp only [List.size_toArray]; have := HR2.out.2.2.2.2; omega)
      have hJ : (Tryd.prog.info? 35).map (·.size) = some XL.toArray.size := by rw [List.size_toArray, xl]; exact info_cf
      have hJl : (Tryd.prog.info? 35).map (·.size) = some XL.length := by rw [xl]; exact info_cf
      have HS := Lib.hid (And.intro rs.rangeAll (And.intro rr (And.intro ht (And.intro hJl (And.intro hJ (And.intro (all_oneCell_toArray xo) kw))))))
      have hsz := k1.size
      have HX := Lib.hid (And.intro hXL hsz)
      have HWS := Lib.hid hwS
      clear hP hP0 hO hH hk hiv hiv2 hlt2 hcf rs r0 kw rr ht hJ hJl hXL xl xo hf e1 k1 hsz hwS
      go_upto_region 8 with fail
      rw [show wr.setCell ⟨tb, 1, none⟩ (.int .i64 (1 + (f : Int))) = wS from HWS.out]
      clear c1 c2 f1
      go_wp2_with (first
        | (refine wpList_load_mid rfl 35 (.tmp 5) rfl tb 0 rfl _ _ HS.out.1 Tryd.underlying35 rfl HS.out.2.2.2.1 ?_)
        | (refine wpList_store_mid rfl 35 (.tmp 4) (.tmp 38) rfl w.heap.size 0 XL.toArray rfl rfl HS.out.2.2.1 HS.out.2.2.2.2.1 HS.out.2.2.2.2.2.1 ?_))
      refine bodyPost_ret (results_cell_row rfl _ _ w.heap.size 35 _ (0, 0) _ rfl HS.out.2.1 Tryd.underlying35 rfl HS.out.2.2.2.2.1) rfl ?_
      have ks := (keepBut.refl [w.heap.size] wS).setL (vs := XL) (g := w.heap.size) (o := 0) (by simp)
      refine ⟨.slice A i c, by rw [HV.out.2.2, HX.out.1], homes (.slice A i c), by rw [HV.out.2.2]; exact HV.out.1.keep ks (fun y hy => by have h1 := (HV.out.2.1 y hy).1; have h2 := HR2.out.2.2.2.1; simp; omega), fun y hy => ⟨by have h1 := (HV.out.2.1 y hy).1; have h2 := HR2.out.2.2.2.1; omega, by have h1 := (HV.out.2.1 y hy).2; have h2 := HX.out.2; have h3 := ks.size; omega⟩, HS.out.2.2.2.2.2.2.setL (.inr (Nat.le_refl _))⟩
end Go.Proofs.YthfdkonhjpdflaaDoor
end

section
namespace Go.Proofs.YthfdkonhjpdflaaDoor
open Go.RowKit
set_option linter.unusedVariables false
set_option maxRecDepth 100000
set_option linter.unusedSimpArgs false

/-- a seed -/
structure SD where
  kind : Int
  frm : Int
  dst : Int
  n0 : Int
  n1 : Int
  n2 : Int
  n3 : Int
  n4 : Int
  b : List UInt8
def sdL (s : SD) (v : Value) : List Value := [.int .i64 s.kind, .int .i64 s.frm, .int .i64 s.dst, .int .i64 s.n0, .int .i64 s.n1, .int .i64 s.n2, .int .i64 s.n3, .int .i64 s.n4, v]
def bigI : Int := 1125899906842624
def rqOf (s : SD) : RQ := ⟨s.n0 % 3, 1 + s.n1 % 1125899906842624, 1 + s.n2 % 4, if s.n2 % 4 = 1 then 1 + s.n3 % 1125899906842624 else if s.n2 % 4 = 3 then 1 + s.n3 % 255 else 0, if s.n2 % 4 = 3 then List.replicate 32 0 else nmOf (s.b.take 32), if s.n2 % 4 = 1 then 7 :: s.b.take 1000 else []⟩
def anOf (s : SD) : AN := ⟨s.n0 % 3, 1 + s.n1 % 1125899906842624, s.n2 % 4, s.n4 % 1125899906842624, s.n3 % 256, nmOf (s.b.take 32), s.b.take 1024⟩
def cfOf (x y : Int) : CF := cfM (x % 1125899906842624) (y % 1048576).toNat
def vtOf (s : SD) (i : Nat) : VT := ⟨1 + ((s.n4 % 1125899906842624).toNat / (i + 1) : Nat), cfOf (IntKind.i64.wrap (s.n0 + i)) (IntKind.i64.wrap (s.n3 + IntKind.i64.wrap (7 * i)))⟩
def vtsOf (s : SD) (k : Nat) : List VT := (List.range k).map (vtOf s)
def ndOf (x : Int) : Int := nodesI.getD (x % 10).toNat 0
def baseP (s : SD) : PK := ⟨1 + s.kind % 14, ndOf s.frm, ndOf s.dst, 0, 0, 0, false, rqZero, anZero, cfZero, [], []⟩
/-- the packet that is made -/
def madeP (s : SD) : PK :=
  let p := baseP s
  let num := s.n0 % 1125899906842624
  let seq := s.n1 % 1125899906842624
  let bal := s.n4 % 1125899906842624
  match (s.kind % 14).toNat with
  | 0 => { p with req := rqOf s }
  | 1 => { p with ans := anOf s }
  | 2 => { p with num := num, seq := seq, req := rqOf s }
  | 3 => { p with num := num, seq := seq }
  | 4 => { p with num := num, seq := seq - 1 }
  | 5 => { p with num := num, seq := seq, bytes := s.b.take 3000 }
  | 6 => { p with conf := cfOf s.n0 s.n1 }
  | 7 => { p with num := num, ready := decide (seq % 2 = 0) }
  | 9 => { p with ballot := bal, seq := seq }
  | 10 => { p with ballot := bal, seq := seq, votes := vtsOf s (s.n2 % 9).toNat }
  | 11 => { p with ballot := bal, seq := seq, conf := cfOf s.n0 s.n1 }
  | 12 => { p with ballot := bal, seq := seq }
  | 13 => { p with ballot := bal }
  | _ => p
theorem nmOf_take (b : List UInt8) : (nmOf (b.take 32)).length = 32 := nmOf_len (by rw [List.length_take]; omega)
theorem rqOf_ok (s : SD) : (rqOf s).ok = true := by
  have h : s.n2 % 4 = 0 ∨ s.n2 % 4 = 1 ∨ s.n2 % 4 = 2 ∨ s.n2 % 4 = 3 := by omega
  unfold RQ.ok rqOf
  dsimp only
  rw [inP_yes (by omega), inP_yes (by omega)]
  rcases h with h | h | h | h <;> rw [h]
  · simp
  · have hl : (s.b.take 1000).length ≤ 1000 := by rw [List.length_take]; omega
    have e1 : inP (1 + s.n3 % 1125899906842624) 1 9007199254740991 = true := inP_yes (by omega)
    have e2 : inP (((7 :: s.b.take 1000 : List UInt8).length : Nat) : Int) 1 1024 = true := inP_yes (by rw [List.length_cons]; omega)
    simp only [List.length_cons] at e2
    simp [e1]
    simpa using e2
  · simp
  · have e1 : inP (1 + s.n3 % 255) 1 255 = true := inP_yes (by omega)
    simp [e1, nameZ]
theorem anOf_ok (s : SD) : (anOf s).ok = true := by
  unfold AN.ok anOf
  dsimp only
  have hl : (s.b.take 1024).length ≤ 1024 := by rw [List.length_take]; omega
  rw [inP_yes (by omega), inP_yes (by omega), inP_yes (by omega), inP_yes (by omega), inP_yes (by omega)]
  simp only [Bool.true_and, decide_eq_true_eq]
  exact hl
theorem cfOf_ok (x y : Int) : (cfOf x y).ok = true := cfM_ok _ _ (by omega)
theorem vtsB_all : ∀ l : List VT, (∀ v ∈ l, v.ok = true) → vtsB l = true
  | [], _ => rfl
  | v :: r, h => by rw [vtsB, h v (by simp), vtsB_all r (fun x hx => h x (by simp [hx]))]; rfl
theorem vtOf_ok (s : SD) (i : Nat) : (vtOf s i).ok = true := by
  unfold VT.ok vtOf
  dsimp only
  have h : (s.n4 % 1125899906842624).toNat / (i + 1) ≤ (s.n4 % 1125899906842624).toNat := Nat.div_le_self _ _
  generalize (s.n4 % 1125899906842624).toNat / (i + 1) = q at h ⊢
  rw [inP_yes (by constructor <;> omega), cfOf_ok]
  rfl
theorem vtsOf_ok (s : SD) (k : Nat) (h : k ≤ 8) : vtsOk (vtsOf s k) = true := by
  unfold vtsOk
  rw [vtsB_all _ (fun v hv => by unfold vtsOf at hv; obtain ⟨i, _, rfl⟩ := List.mem_map.1 hv; exact vtOf_ok s i)]
  simp [vtsOf, h]
theorem ndOf_ok (x : Int) : nodeP (ndOf x) = true ∧ 0 ≤ ndOf x ∧ ndOf x ≤ 22 := by
  unfold ndOf
  have h : (x % 10).toNat < 10 := by omega
  generalize (x % 10).toNat = k at h
  have hs : k = 0 ∨ k = 1 ∨ k = 2 ∨ k = 3 ∨ k = 4 ∨ k = 5 ∨ k = 6 ∨ k = 7 ∨ k = 8 ∨ k = 9 := by omega
  rcases hs with rfl | rfl | rfl | rfl | rfl | rfl | rfl | rfl | rfl | rfl <;> decide
theorem cut_eq {p : PK} {n : Int} (h1 : bitA n 1 = 0 → p.num = 0) (h2 : bitA n 2 = 0 → p.seq = 0) (h3 : bitA n 4 = 0 → p.ballot = 0) (h4 : bitA n 8 = 0 → p.ready = false) (h5 : bitA n 16 = 0 → p.req = rqZero) (h6 : bitA n 32 = 0 → p.ans = anZero) (h7 : bitA n 64 = 0 → p.conf = cfZero) (h8 : bitA n 128 = 0 → p.votes = []) (h9 : bitA n 256 = 0 → p.bytes = []) : p.cut n = p := by
  obtain ⟨a1, a2, a3, a4, a5, a6, a7, a8, a9, a10, a11, a12⟩ := p
  unfold PK.cut
  dsimp only at *
  have e1 : oI (bitA n 1) a4 = a4 := by unfold oI; split; exact (h1 ‹_›).symm; rfl
  have e2 : oI (bitA n 2) a5 = a5 := by unfold oI; split; exact (h2 ‹_›).symm; rfl
  have e3 : oI (bitA n 4) a6 = a6 := by unfold oI; split; exact (h3 ‹_›).symm; rfl
  have e4 : oB (bitA n 8) a7 = a7 := by unfold oB; split; exact (h4 ‹_›).symm; rfl
  have e5 : oV (bitA n 16) rqZero a8 = a8 := by unfold oV; split; exact (h5 ‹_›).symm; rfl
  have e6 : oV (bitA n 32) anZero a9 = a9 := by unfold oV; split; exact (h6 ‹_›).symm; rfl
  have e7 : oV (bitA n 64) cfZero a10 = a10 := by unfold oV; split; exact (h7 ‹_›).symm; rfl
  have e8 : oV (bitA n 128) [] a11 = a11 := by unfold oV; split; exact (h8 ‹_›).symm; rfl
  have e9 : oV (bitA n 256) [] a12 = a12 := by unfold oV; split; exact (h9 ‹_›).symm; rfl
  rw [e1, e2, e3, e4, e5, e6, e7, e8, e9]
theorem okOf {p : PK} {n : Int} (hk : fieldsP p.kind = n) (h0 : n ≠ 0) (hn1 : nodeP p.frm = true) (hn2 : nodeP p.dst = true) (e : p.cut n = p)
    (q1 : 0 ≤ p.num ∧ p.num ≤ 1125899906842624) (q2 : 0 ≤ p.ballot ∧ p.ballot ≤ 1125899906842624) (q3 : seqP p.kind p.seq = true) (q4 : p.bytes.length ≤ 3000)
    (q5 : bitA n 16 ≠ 0 → p.req.ok = true) (q6 : bitA n 32 ≠ 0 → p.ans.ok = true) (q7 : bitA n 64 ≠ 0 → p.conf.ok = true) (q8 : vtsOk p.votes = true) : p.ok = true := by
  have b0 : (n == 0) = false := by simpa using h0
  have d4 : decide (p.bytes.length ≤ 32768) = true := by simp; omega
  have d5 : ((bitA n 16 == 0) || p.req.ok) = true := by
    by_cases h : bitA n 16 = 0
    · simp [h]
    · simp [q5 h]
  have d6 : ((bitA n 32 == 0) || p.ans.ok) = true := by
    by_cases h : bitA n 32 = 0
    · simp [h]
    · simp [q6 h]
  have d7 : ((bitA n 64 == 0) || p.conf.ok) = true := by
    by_cases h : bitA n 64 = 0
    · simp [h]
    · simp [q7 h]
  unfold PK.ok
  rw [hk, e, b0, hn1, hn2, PK.same_refl]
  unfold PK.parts
  rw [inP_yes (by omega), inP_yes (by omega), q3, d4, d5, d6, d7, q8]
  rfl
theorem fieldsP_at {k : Int} {n : Nat} (h : k = (n : Int)) (h14 : n ≤ 14) : fieldsP k = fieldsT n := by
  subst h
  unfold fieldsP
  rw [if_pos (by omega)]
  simp
theorem seqP_of {k s : Int} (h : 0 ≤ s ∧ s ≤ 1125899906842624) : seqP k s = true := by
  unfold seqP
  split <;> exact inP_yes (by omega)
set_option maxHeartbeats 4000000 in
theorem madeP_ok (s : SD) : (madeP s).ok = true := by
  have hlt : (s.kind % 14).toNat < 14 := by omega
  have hk : 1 + s.kind % 14 = (((s.kind % 14).toNat + 1 : Nat) : Int) := by omega
  have b1 : 0 ≤ s.n0 % 1125899906842624 ∧ s.n0 % 1125899906842624 ≤ 1125899906842624 := by omega
  have b2 : 0 ≤ s.n1 % 1125899906842624 ∧ s.n1 % 1125899906842624 ≤ 1125899906842624 := by omega
  have b3 : 0 ≤ s.n4 % 1125899906842624 ∧ s.n4 % 1125899906842624 ≤ 1125899906842624 := by omega
  have bz : (0 : Int) ≤ 0 ∧ (0 : Int) ≤ 1125899906842624 := by omega
  have hb : (s.b.take 3000).length ≤ 3000 := by rw [List.length_take]; omega
  have hv : vtsOk (vtsOf s (s.n2 % 9).toNat) = true := vtsOf_ok s _ (by omega)
  have hv0 : vtsOk [] = true := rfl
  unfold madeP baseP
  dsimp only
  generalize (s.kind % 14).toNat = k at hlt hk
  rw [hk]
  have hs : k = 0 ∨ k = 1 ∨ k = 2 ∨ k = 3 ∨ k = 4 ∨ k = 5 ∨ k = 6 ∨ k = 7 ∨ k = 8 ∨ k = 9 ∨ k = 10 ∨ k = 11 ∨ k = 12 ∨ k = 13 := by omega
  have hseq4 : seqP ((4 + 1 : Nat) : Int) (s.n1 % 1125899906842624 - 1) = true := by
    unfold seqP
    rw [if_pos (by rfl)]
    exact inP_yes (by omega)
  rcases hs with rfl | rfl | rfl | rfl | rfl | rfl | rfl | rfl | rfl | rfl | rfl | rfl | rfl | rfl
  all_goals
    refine okOf (fieldsP_at rfl (by omega)) (by decide) (ndOf_ok _).1 (ndOf_ok _).1 (cut_eq ?_ ?_ ?_ ?_ ?_ ?_ ?_ ?_ ?_) ?_ ?_ ?_ ?_ ?_ ?_ ?_ ?_
    all_goals first
      | (intro _; rfl)
      | (intro h; exact absurd h (by decide))
      | (intro h; exact absurd rfl h)
      | exact b1
      | exact b2
      | exact b3
      | exact bz
      | exact seqP_of b2
      | exact seqP_of bz
      | exact hseq4
      | exact hb
      | exact Nat.zero_le _
      | exact hv
      | exact hv0
      | (intro _; exact rqOf_ok s)
      | (intro _; exact anOf_ok s)
      | (intro _; exact cfOf_ok _ _)
theorem madeP_ends (s : SD) : i64P (madeP s).frm ∧ i64P (madeP s).dst := by
  have h1 := (ndOf_ok s.frm).2
  have h2 := (ndOf_ok s.dst).2
  have e : (madeP s).frm = ndOf s.frm ∧ (madeP s).dst = ndOf s.dst := by
    unfold madeP
    dsimp only
    split <;> exact ⟨rfl, rfl⟩
  rw [e.1, e.2]
  unfold i64P
  omega
end Go.Proofs.YthfdkonhjpdflaaDoor
end

section
namespace Go.Proofs.YthfdkonhjpdflaaDoor
open Go.RowKit
set_option linter.unusedVariables false
set_option maxRecDepth 100000
set_option linter.unusedSimpArgs false

theorem step_alloc_to {P : Program} (w w' : World) {ops : Array Oper} {o : Oper} {a : Act} {K : Act → World → Prop} {Q : Exit → Act → World → Prop} {E : Prop} (hgd : o.guard = none) (t : TypeId) (ho : o.op = .alloc t)
    (zs : Array Value) (hz : (P.info? t).bind (·.zero) = some (.agg zs)) (hw : w.alloc (.cells zs t) = w') (h : K (a.put o.dst (.pointer (some ⟨w.heap.size, 0, none⟩))) w') : if Region.wanted o (yielded ops a.tmps) = true then Oper.wp P o a w K Q else E := by
  subst hw
  rw [if_pos (by simp [Region.wanted, hgd])]
  cases hi : P.info? t with
  | none => rw [hi] at hz; cases hz
  | some i =>
    rw [hi] at hz
    have hz' : i.zero = some (.agg zs) := hz
    unfold Oper.wp execOp
    simp only [ho]
    simpa [Instr.alloc, zeroValue, typeInfo, hi, hz', newVar, newRow, Value.cells, go_sem] using h
structure SDok (s : SD) : Prop where
  k : i64P s.kind
  f : i64P s.frm
  d : i64P s.dst
  n0 : i64P s.n0
  n1 : i64P s.n1
  n2 : i64P s.n2
  n3 : i64P s.n3
  n4 : i64P s.n4
theorem rqL_env_set {r : RQ} {ev u : Value} (h : r.name.length = 32) (e : List UInt8) : (rqL r ev).toArray.setIfInBounds 36 u = (rqL { r with env := e } u).toArray := by
  rw [rqL_split, rqL_split, List.setIfInBounds_toArray]
  congr 1
  rw [List.set_append_right _ _ (by simp), List.set_append_right _ _ (by simp [nameL_len, h])]
  simp [nameL_len, h]
set_option maxHeartbeats 8000000 in
theorem req_any (F : List Nat) (s : SD) (v : Value) (w : World) (hs : SDok s) (hv : bytesV w F v s.b) :
    Calls Tryd.prog 24 #[.agg (sdL s v).toArray] w fun e w' => ∃ ev G, e = .returned (.agg (rqL (rqOf s) ev).toArray) ∧ rqV w' G (rqOf s) ev ∧ newIn w w' G ∧ keepBut [] w w' := by
  obtain ⟨Z, hZ⟩ : ∃ Z, rqL rqZero nilV = Z := ⟨_, rfl⟩
  have zv := zv_rq
  have zl : Z.length = 37 := by rw [← hZ]; exact rqZ_len
  rw [hZ] at zv
  obtain ⟨Y, hY⟩ : ∃ Y, sdL s v = Y := ⟨_, rfl⟩
  obtain ⟨wA, hwA⟩ : ∃ wA, w.alloc (.cells Y.toArray 25) = wA := ⟨_, rfl⟩
  obtain ⟨wB, hwB⟩ : ∃ wB, wA.alloc (.cells Z.toArray 30) = wB := ⟨_, rfl⟩
  have rA := rowAt.new w 25 Y.toArray
  have rB := rowAt.new wA 30 Z.toArray
  have kA := (keepBut.refl [] w).alloc (.cells Y.toArray 25)
  have kB := (keepBut.refl [] wA).alloc (.cells Z.toArray 30)
  rw [hwA] at rA kA
  rw [hwB] at rB kB
  have rA3 := kB.row rA (by simp)
  have kk := kA.then kB (by simp)
  have hlA : w.heap.size < wA.heap.size := rA.lt
  have y0 : wB.drew.cell? ⟨w.heap.size, 3, none⟩ = some (.int .i64 s.n0) := (rA3.cell 3).trans (by rw [← hY]; rfl)
  have y1 : wB.drew.cell? ⟨w.heap.size, 4, none⟩ = some (.int .i64 s.n1) := (rA3.cell 4).trans (by rw [← hY]; rfl)
  have y2 : wB.drew.cell? ⟨w.heap.size, 5, none⟩ = some (.int .i64 s.n2) := (rA3.cell 5).trans (by rw [← hY]; rfl)
  have HW := Lib.hid (And.intro hwA (And.intro hwB zv))
  have hA1 : wA.heap.size = w.heap.size + 1 := by rw [← hwA]; simp
  rw [hA1] at rB
  have HR := Lib.hid (And.intro rA3 (And.intro rB (And.intro kk (And.intro hlA zl))))
  have hw1 : IntKind.i64.wrap (1 + s.n1 % 1125899906842624) = 1 + s.n1 % 1125899906842624 := wraps_i64 _ (by omega) (by omega)
  have hw2 : IntKind.i64.wrap (1 + s.n2 % 4) = 1 + s.n2 % 4 := wraps_i64 _ (by omega) (by omega)
  rw [hY]
  have HY := Lib.hid hY
  have HZ := Lib.hid hZ
  clear hwA hwB zv rA rB kA kB rA3 kk hlA zl hZ hY
  go_enter Tryd.func24, Tryd.ntmps24
  go_upto_region 1 with fail
  rw [← rqZero_cells, show rqL rqZero (.slice none 0 0) = Z from HZ.out, HW.out.1, HW.out.2.1]
  go_cut [3] (fun v3 wx => v3 = .pointer (some ⟨wB.heap.size, 0, none⟩) ∧ rowAt wx wB.heap.size 30 (rqL ⟨s.n0 % 3, 1 + s.n1 % 1125899906842624, 1 + s.n2 % 4, 0, List.replicate 32 0, []⟩ nilV).toArray ∧ keepBut [] wB wx)
  case first =>
    have s1 : wB.drew.cell? ⟨w.heap.size, 3, none⟩ = some (.int .i64 s.n0) ∧ wB.drew.cell? ⟨w.heap.size, 4, none⟩ = some (.int .i64 s.n1) ∧ wB.drew.cell? ⟨w.heap.size, 5, none⟩ = some (.int .i64 s.n2) := ⟨y0, y1, y2⟩
    clear y0 y1 y2
    refine wp_region_held_drew (S := fun w' => w'.cell? ⟨w.heap.size, 3, none⟩ = some (.int .i64 s.n0) ∧ w'.cell? ⟨w.heap.size, 4, none⟩ = some (.int .i64 s.n1) ∧ w'.cell? ⟨w.heap.size, 5, none⟩ = some (.int .i64 s.n2)) (by kernel_rfl) s1 (fun _ => ?_)
    refine wpAnyH_take (i := 0) (oi := ⟨_, _, _, _, _, _⟩) (v := ?_) rfl (by kernel_rfl) (by kernel_rfl) (by kernel_rfl) (fun _ _ _ h => h) (Or.inl ⟨by rfl, ?_⟩) s1 ?_
    rotate_left
    · intro w' hSw; (try dsimp only at hSw); (go_simp; try with_reducible rfl)
    try simp only [Act.put, List.setIfInBounds_toArray, List.set_cons_zero, List.set_cons_succ]
    refine wpAnyH_take (i := 1) (oi := ⟨_, _, _, _, _, _⟩) (v := ?_) rfl (by kernel_rfl) (by kernel_rfl) (by kernel_rfl) (fun _ _ _ h => h) (Or.inl ⟨by rfl, ?_⟩) s1 ?_
    rotate_left
    · intro w' hSw; (try dsimp only at hSw); (go_simp; try with_reducible rfl)
    try simp only [Act.put, List.setIfInBounds_toArray, List.set_cons_zero, List.set_cons_succ]
    refine wpAnyH_take (i := 2) (oi := ⟨_, _, _, _, _, _⟩) (v := ?_) rfl (by kernel_rfl) (by kernel_rfl) (by kernel_rfl) (fun _ _ _ h => h) (Or.inl ⟨by rfl, ?_⟩) s1 ?_
    rotate_left
    · intro w' hSw; (try dsimp only at hSw); (go_simp; try with_reducible rfl)
    try simp only [Act.put, List.setIfInBounds_toArray, List.set_cons_zero, List.set_cons_succ]
    refine wpAnyH_take (i := 4) (oi := ⟨_, _, _, _, _, _⟩) (v := ?_) rfl (by kernel_rfl) (by kernel_rfl) (by kernel_rfl) (fun _ _ _ h => h) (Or.inl ⟨by rfl, ?_⟩) s1 ?_
    rotate_left
    · intro w' hSw; (try dsimp only at hSw); (go_simp; try with_reducible rfl)
    try simp only [Act.put, List.setIfInBounds_toArray, List.set_cons_zero, List.set_cons_succ]
    refine wpAnyH_take (i := 5) (oi := ⟨_, _, _, _, _, _⟩) (v := ?_) rfl (by kernel_rfl) (by kernel_rfl) (by kernel_rfl) (fun _ _ _ h => h) (Or.inl ⟨by rfl, ?_⟩) s1 ?_
    rotate_left
    · intro w' hSw; (try dsimp only at hSw); (go_simp; try with_reducible rfl)
    try simp only [Act.put, List.setIfInBounds_toArray, List.set_cons_zero, List.set_cons_succ]
    refine wpAnyH_take (i := 6) (oi := ⟨_, _, _, _, _, _⟩) (v := ?_) rfl (by kernel_rfl) (by kernel_rfl) (by kernel_rfl) (fun _ _ _ h => h) (Or.inl ⟨by rfl, ?_⟩) s1 ?_
    rotate_left
    · intro w' hSw; (try dsimp only at hSw); (go_simp; try with_reducible rfl)
    try simp only [Act.put, List.setIfInBounds_toArray, List.set_cons_zero, List.set_cons_succ]
    refine wpAnyH_take (i := 9) (oi := ⟨_, _, _, _, _, _⟩) (v := ?_) rfl (by kernel_rfl) (by kernel_rfl) (by kernel_rfl) (fun _ _ _ h => h) (Or.inl ⟨by rfl, ?_⟩) s1 ?_
    rotate_left
    · intro w' hSw; (try dsimp only at hSw); (go_simp; try with_reducible rfl)
    try simp only [Act.put, List.setIfInBounds_toArray, List.set_cons_zero, List.set_cons_succ]
    refine wpAnyH_take (i := 10) (oi := ⟨_, _, _, _, _, _⟩) (v := ?_) rfl (by kernel_rfl) (by kernel_rfl) (by kernel_rfl) (fun _ _ _ h => h) (Or.inl ⟨by rfl, ?_⟩) s1 ?_
    rotate_left
    · intro w' hSw; (try dsimp only at hSw); (go_simp; try with_reducible rfl)
    try simp only [Act.put, List.setIfInBounds_toArray, List.set_cons_zero, List.set_cons_succ]
    refine wpAnyH_take (i := 11) (oi := ⟨_, _, _, _, _, _⟩) (v := ?_) rfl (by kernel_rfl) (by kernel_rfl) (by kernel_rfl) (fun _ _ _ h => h) (Or.inl ⟨by rfl, ?_⟩) s1 ?_
    rotate_left
    · intro w' hSw; (try dsimp only at hSw); (go_simp; try with_reducible rfl)
    try simp only [Act.put, List.setIfInBounds_toArray, List.set_cons_zero, List.set_cons_succ]
    have HS3 : Hid ((wB.drew.cell? ⟨w.heap.size, 3, none⟩ = some (.int .i64 s.n0) ∧ wB.drew.cell? ⟨w.heap.size, 4, none⟩ = some (.int .i64 s.n1) ∧ wB.drew.cell? ⟨w.heap.size, 5, none⟩ = some (.int .i64 s.n2)) → (wB.drew.alloc (.cells Z.toArray 30)).cell? ⟨w.heap.size, 3, none⟩ = some (.int .i64 s.n0) ∧ (wB.drew.alloc (.cells Z.toArray 30)).cell? ⟨w.heap.size, 4, none⟩ = some (.int .i64 s.n1) ∧ (wB.drew.alloc (.cells Z.toArray 30)).cell? ⟨w.heap.size, 5, none⟩ = some (.int .i64 s.n2)) := Lib.hid (fun h => by
      have ka := (keepBut.refl [] wB.drew).alloc (.cells Z.toArray 30)
      exact ⟨(ka.cell (p := ⟨w.heap.size, 3, none⟩) (World.block_lt_of_cell? _ _ h.1) (by simp)).trans h.1, (ka.cell (p := ⟨w.heap.size, 4, none⟩) (World.block_lt_of_cell? _ _ h.2.1) (by simp)).trans h.2.1, (ka.cell (p := ⟨w.heap.size, 5, none⟩) (World.block_lt_of_cell? _ _ h.2.2) (by simp)).trans h.2.2⟩)
    have HQ : Hid ((wB.drew.alloc (.cells Z.toArray 30)).there wB.heap.size 0 (rqL ⟨s.n0 % 3, 1 + s.n1 % 1125899906842624, 1 + s.n2 % 4, 0, List.replicate 32 0, []⟩ nilV).toArray.size ∧ (Tryd.prog.info? 30).map (·.size) = some (rqL ⟨s.n0 % 3, 1 + s.n1 % 1125899906842624, 1 + s.n2 % 4, 0, List.replicate 32 0, []⟩ nilV).toArray.size ∧ ((rqL ⟨s.n0 % 3, 1 + s.n1 % 1125899906842624, 1 + s.n2 % 4, 0, List.replicate 32 0, []⟩ nilV).toArray.all fun x => x.oneCell') = true ∧ (((wB.drew.alloc (.cells Z.toArray 30)).cell? ⟨w.heap.size, 3, none⟩ = some (.int .i64 s.n0) ∧ (wB.drew.alloc (.cells Z.toArray 30)).cell? ⟨w.heap.size, 4, none⟩ = some (.int .i64 s.n1) ∧ (wB.drew.alloc (.cells Z.toArray 30)).cell? ⟨w.heap.size, 5, none⟩ = some (.int .i64 s.n2)) → ((wB.drew.alloc (.cells Z.toArray 30)).setCells wB.heap.size 0 (rqL ⟨s.n0 % 3, 1 + s.n1 % 1125899906842624, 1 + s.n2 % 4, 0, List.replicate 32 0, []⟩ nilV)).cell? ⟨w.heap.size, 3, none⟩ = some (.int .i64 s.n0) ∧ ((wB.drew.alloc (.cells Z.toArray 30)).setCells wB.heap.size 0 (rqL ⟨s.n0 % 3, 1 + s.n1 % 1125899906842624, 1 + s.n2 % 4, 0, List.replicate 32 0, []⟩ nilV)).cell? ⟨w.heap.size, 4, none⟩ = some (.int .i64 s.n1) ∧ ((wB.drew.alloc (.cells Z.toArray 30)).setCells wB.heap.size 0 (rqL ⟨s.n0 % 3, 1 + s.n1 % 1125899906842624, 1 + s.n2 % 4, 0, List.replicate 32 0, []⟩ nilV)).cell? ⟨w.heap.size, 5, none⟩ = some (.int .i64 s.n2)) ∧ rowAt ((wB.drew.alloc (.cells Z.toArray 30)).setCells wB.heap.size 0 (rqL ⟨s.n0 % 3, 1 + s.n1 % 1125899906842624, 1 + s.n2 % 4, 0, List.replicate 32 0, []⟩ nilV)) wB.heap.size 30 (rqL ⟨s.n0 % 3, 1 + s.n1 % 1125899906842624, 1 + s.n2 % 4, 0, List.replicate 32 0, []⟩ nilV).toArray ∧ keepBut [] wB ((wB.drew.alloc (.cells Z.toArray 30)).setCells wB.heap.size 0 (rqL ⟨s.n0 % 3, 1 + s.n1 % 1125899906842624, 1 + s.n2 % 4, 0, List.replicate 32 0, []⟩ nilV))) := Lib.hid (by
      have ql : (rqL ⟨s.n0 % 3, 1 + s.n1 % 1125899906842624, 1 + s.n2 % 4, 0, List.replicate 32 0, []⟩ nilV).length = 37 := rqL_len (List.length_replicate)
      have qo : ∀ u ∈ (rqL ⟨s.n0 % 3, 1 + s.n1 % 1125899906842624, 1 + s.n2 % 4, 0, List.replicate 32 0, []⟩ nilV), u.oneCell' = true := rqL_one _ rfl
      generalize (rqL ⟨s.n0 % 3, 1 + s.n1 % 1125899906842624, 1 + s.n2 % 4, 0, List.replicate 32 0, []⟩ nilV) = QL at ql qo ⊢
      have rn : rowAt (wB.drew.alloc (.cells Z.toArray 30)) wB.heap.size 30 Z.toArray := rowAt.new wB.drew _ _
      have kn := ((keepBut.refl [] wB).drew).alloc (.cells Z.toArray 30)
      have rs := rn.setL (vs := QL) (o := 0)
      rw [putL_all (by rw [ql, List.size_toArray]; exact HR.out.2.2.2.2.symm)] at rs
      have ks := (keepBut.refl [wB.heap.size] (wB.drew.alloc (.cells Z.toArray 30))).setL (vs := QL) (g := wB.heap.size) (o := 0) (by simp)
      have hg : w.heap.size < wB.heap.size := HR.out.1.lt
      refine ⟨rn.there (by simp only [List.size_toArray]; have := HR.out.2.2.2.2; omega), by rw [List.size_toArray, ql]; exact info_rq, all_oneCell_toArray qo, fun h => ⟨(ks.cell (p := ⟨w.heap.size, 3, none⟩) (World.block_lt_of_cell? _ _ h.1) (by simp; omega)).trans h.1, (ks.cell (p := ⟨w.heap.size, 4, none⟩) (World.block_lt_of_cell? _ _ h.2.1) (by simp; omega)).trans h.2.1, (ks.cell (p := ⟨w.heap.size, 5, none⟩) (World.block_lt_of_cell? _ _ h.2.2) (by simp; omega)).trans h.2.2⟩, rs, kn.setL (.inr (Nat.le_refl _))⟩)
    refine wpAnyH_ready (rs := [3, 15]) (by kernel_rfl) (by simp) ?_
    refine AllReadyH.cons (o := ⟨_, _, _, _, _, _⟩) rfl (fun K hK => ?_) (AllReadyH.cons (o := ⟨_, _, _, _, _, _⟩) rfl (fun K hK => ?_) AllReadyH.nil)
    · skip
      go_simp
      refine (bring_any s.n0 3 hs.n0.1 hs.n0.2 (by omega) (by omega) _).mono ?_
      rintro e w' ⟨rfl, rfl⟩
      go_wp2_with fail
      refine hK.out _ _ s1 (fun _ => ?_)
      clear hK K
      try simp only [Act.put, List.setIfInBounds_toArray, List.set_cons_zero, List.set_cons_succ]
      refine wpAnyH_ready (rs := [7, 15]) (by kernel_rfl) (by simp) ?_
      refine AllReadyH.cons (o := ⟨_, _, _, _, _, _⟩) rfl (fun K hK => ?_) (AllReadyH.cons (o := ⟨_, _, _, _, _, _⟩) rfl (fun K hK => ?_) AllReadyH.nil)
      · skip
        go_simp
        refine (bring_any s.n1 1125899906842624 hs.n1.1 hs.n1.2 (by omega) (by omega) _).mono ?_
        rintro e w' ⟨rfl, rfl⟩
        go_wp2_with fail
        refine hK.out _ _ s1 (fun _ => ?_)
        clear hK K
        try simp only [Act.put, List.setIfInBounds_toArray, List.set_cons_zero, List.set_cons_succ]
        refine wpAnyH_take (i := 8) (oi := ⟨_, _, _, _, _, _⟩) (v := ?_) rfl (by kernel_rfl) (by kernel_rfl) (by kernel_rfl) (fun _ _ _ h => h) (Or.inl ⟨by rfl, ?_⟩) s1 ?_
        rotate_left
        · intro w' hSw; (try dsimp only at hSw); (go_simp; try with_reducible rfl)
        try simp only [Act.put, List.setIfInBounds_toArray, List.set_cons_zero, List.set_cons_succ]
        refine wpAnyH_ready (rs := [12, 15]) (by kernel_rfl) (by simp) ?_
        refine AllReadyH.cons (o := ⟨_, _, _, _, _, _⟩) rfl (fun K hK => ?_) (AllReadyH.cons (o := ⟨_, _, _, _, _, _⟩) rfl (fun K hK => ?_) AllReadyH.nil)
        · skip
          go_simp
          refine (bring_any s.n2 4 hs.n2.1 hs.n2.2 (by omega) (by omega) _).mono ?_
          rintro e w' ⟨rfl, rfl⟩
          go_wp2_with fail
          refine hK.out _ _ s1 (fun _ => ?_)
          clear hK K
          try simp only [Act.put, List.setIfInBounds_toArray, List.set_cons_zero, List.set_cons_succ]
          refine wpAnyH_take (i := 13) (oi := ⟨_, _, _, _, _, _⟩) (v := ?_) rfl (by kernel_rfl) (by kernel_rfl) (by kernel_rfl) (fun _ _ _ h => h) (Or.inl ⟨by rfl, ?_⟩) s1 ?_
          rotate_left
          · intro w' hSw; (try dsimp only at hSw); (go_simp; try with_reducible rfl)
          try simp only [Act.put, List.setIfInBounds_toArray, List.set_cons_zero, List.set_cons_succ]
          refine wpAnyH_take (i := 14) (oi := ⟨_, _, _, _, _, _⟩) (v := ?_) rfl (by kernel_rfl) (by kernel_rfl) (by kernel_rfl) (fun _ _ _ h => h) (Or.inl ⟨by rfl, ?_⟩) s1 ?_
          rotate_left
          · intro w' hSw; (try dsimp only at hSw); (go_simp; try with_reducible rfl)
          try simp only [Act.put, List.setIfInBounds_toArray, List.set_cons_zero, List.set_cons_succ]
          refine wpAnyH_ready (rs := [15]) (by kernel_rfl) (by simp) ?_
          refine AllReadyH.cons (o := ⟨_, _, _, _, _, _⟩) rfl (fun K hK => ?_) AllReadyH.nil
          refine step_alloc_to _ _ rfl 30 rfl _ HW.out.2.2 rfl ?_
          have s3 := HS3.out s1
          refine hK.out _ _ s3 (fun _ => ?_)
          clear hK K
          try simp only [Act.put, List.setIfInBounds_toArray, List.set_cons_zero, List.set_cons_succ]
          refine wpAnyH_ready (rs := [16]) (by kernel_rfl) (by simp) ?_
          refine AllReadyH.cons (o := ⟨_, _, _, _, _, _⟩) rfl (fun K hK => ?_) AllReadyH.nil
          refine step_store_mid rfl 30 (.tmp 3) (.tmp 18) rfl wB.heap.size 0 (rqL ⟨s.n0 % 3, 1 + s.n1 % 1125899906842624, 1 + s.n2 % 4, 0, List.replicate 32 0, []⟩ nilV).toArray rfl (by rfl) HQ.out.1 HQ.out.2.1 HQ.out.2.2.1 ?_
          refine hK.out _ _ (HQ.out.2.2.2.1 s3) (fun _ => ?_)
          clear hK K
          try simp only [Act.put, List.setIfInBounds_toArray, List.set_cons_zero, List.set_cons_succ]
          refine wpAnyH_done (by kernel_rfl) ?_ _
          go_wp2_with fail
          go_meet
          exact ⟨rfl, HQ.out.2.2.2.2.1, HQ.out.2.2.2.2.2⟩
        · skip
          refine step_alloc_to _ _ rfl 30 rfl _ HW.out.2.2 rfl ?_
          have s3 := HS3.out s1
          refine hK.out _ _ s3 (fun _ => ?_)
          clear hK K
          try simp only [Act.put, List.setIfInBounds_toArray, List.set_cons_zero, List.set_cons_succ]
          refine wpAnyH_ready (rs := [12]) (by kernel_rfl) (by simp) ?_
          refine AllReadyH.cons (o := ⟨_, _, _, _, _, _⟩) rfl (fun K hK => ?_) AllReadyH.nil
          go_simp
          refine (bring_any s.n2 4 hs.n2.1 hs.n2.2 (by omega) (by omega) _).mono ?_
          rintro e w' ⟨rfl, rfl⟩
          go_wp2_with fail
          refine hK.out _ _ s3 (fun _ => ?_)
          clear hK K
          try simp only [Act.put, List.setIfInBounds_toArray, List.set_cons_zero, List.set_cons_succ]
          refine wpAnyH_take (i := 13) (oi := ⟨_, _, _, _, _, _⟩) (v := ?_) rfl (by kernel_rfl) (by kernel_rfl) (by kernel_rfl) (fun _ _ _ h => h) (Or.inl ⟨by rfl, ?_⟩) s3 ?_
          rotate_left
          · intro w' hSw; (try dsimp only at hSw); (go_simp; try with_reducible rfl)
          try simp only [Act.put, List.setIfInBounds_toArray, List.set_cons_zero, List.set_cons_succ]
          refine wpAnyH_take (i := 14) (oi := ⟨_, _, _, _, _, _⟩) (v := ?_) rfl (by kernel_rfl) (by kernel_rfl) (by kernel_rfl) (fun _ _ _ h => h) (Or.inl ⟨by rfl, ?_⟩) s3 ?_
          rotate_left
          · intro w' hSw; (try dsimp only at hSw); (go_simp; try with_reducible rfl)
          try simp only [Act.put, List.setIfInBounds_toArray, List.set_cons_zero, List.set_cons_succ]
          refine wpAnyH_ready (rs := [16]) (by kernel_rfl) (by simp) ?_
          refine AllReadyH.cons (o := ⟨_, _, _, _, _, _⟩) rfl (fun K hK => ?_) AllReadyH.nil
          refine step_store_mid rfl 30 (.tmp 3) (.tmp 18) rfl wB.heap.size 0 (rqL ⟨s.n0 % 3, 1 + s.n1 % 1125899906842624, 1 + s.n2 % 4, 0, List.replicate 32 0, []⟩ nilV).toArray rfl (by rfl) HQ.out.1 HQ.out.2.1 HQ.out.2.2.1 ?_
          refine hK.out _ _ (HQ.out.2.2.2.1 s3) (fun _ => ?_)
          clear hK K
          try simp only [Act.put, List.setIfInBounds_toArray, List.set_cons_zero, List.set_cons_succ]
          refine wpAnyH_done (by kernel_rfl) ?_ _
          go_wp2_with fail
          go_meet
          exact ⟨rfl, HQ.out.2.2.2.2.1, HQ.out.2.2.2.2.2⟩
      · skip
        refine step_alloc_to _ _ rfl 30 rfl _ HW.out.2.2 rfl ?_
        have s3 := HS3.out s1
        refine hK.out _ _ s3 (fun _ => ?_)
        clear hK K
        try simp only [Act.put, List.setIfInBounds_toArray, List.set_cons_zero, List.set_cons_succ]
        refine wpAnyH_ready (rs := [7]) (by kernel_rfl) (by simp) ?_
        refine AllReadyH.cons (o := ⟨_, _, _, _, _, _⟩) rfl (fun K hK => ?_) AllReadyH.nil
        go_simp
        refine (bring_any s.n1 1125899906842624 hs.n1.1 hs.n1.2 (by omega) (by omega) _).mono ?_
        rintro e w' ⟨rfl, rfl⟩
        go_wp2_with fail
        refine hK.out _ _ s3 (fun _ => ?_)
        clear hK K
        try simp only [Act.put, List.setIfInBounds_toArray, List.set_cons_zero, List.set_cons_succ]
        refine wpAnyH_take (i := 8) (oi := ⟨_, _, _, _, _, _⟩) (v := ?_) rfl (by kernel_rfl) (by kernel_rfl) (by kernel_rfl) (fun _ _ _ h => h) (Or.inl ⟨by rfl, ?_⟩) s3 ?_
        rotate_left
        · intro w' hSw; (try dsimp only at hSw); (go_simp; try with_reducible rfl)
        try simp only [Act.put, List.setIfInBounds_toArray, List.set_cons_zero, List.set_cons_succ]
        refine wpAnyH_ready (rs := [12]) (by kernel_rfl) (by simp) ?_
        refine AllReadyH.cons (o := ⟨_, _, _, _, _, _⟩) rfl (fun K hK => ?_) AllReadyH.nil
        go_simp
        refine (bring_any s.n2 4 hs.n2.1 hs.n2.2 (by omega) (by omega) _).mono ?_
        rintro e w' ⟨rfl, rfl⟩
        go_wp2_with fail
        refine hK.out _ _ s3 (fun _ => ?_)
        clear hK K
        try simp only [Act.put, List.setIfInBounds_toArray, List.set_cons_zero, List.set_cons_succ]
        refine wpAnyH_take (i := 13) (oi := ⟨_, _, _, _, _, _⟩) (v := ?_) rfl (by kernel_rfl) (by kernel_rfl) (by kernel_rfl) (fun _ _ _ h => h) (Or.inl ⟨by rfl, ?_⟩) s3 ?_
        rotate_left
        · intro w' hSw; (try dsimp only at hSw); (go_simp; try with_reducible rfl)
        try simp only [Act.put, List.setIfInBounds_toArray, List.set_cons_zero, List.set_cons_succ]
        refine wpAnyH_take (i := 14) (oi := ⟨_, _, _, _, _, _⟩) (v := ?_) rfl (by kernel_rfl) (by kernel_rfl) (by kernel_rfl) (fun _ _ _ h => h) (Or.inl ⟨by rfl, ?_⟩) s3 ?_
        rotate_left
        · intro w' hSw; (try dsimp only at hSw); (go_simp; try with_reducible rfl)
        try simp only [Act.put, List.setIfInBounds_toArray, List.set_cons_zero, List.set_cons_succ]
        refine wpAnyH_ready (rs := [16]) (by kernel_rfl) (by simp) ?_
        refine AllReadyH.cons (o := ⟨_, _, _, _, _, _⟩) rfl (fun K hK => ?_) AllReadyH.nil
        refine step_store_mid rfl 30 (.tmp 3) (.tmp 18) rfl wB.heap.size 0 (rqL ⟨s.n0 % 3, 1 + s.n1 % 1125899906842624, 1 + s.n2 % 4, 0, List.replicate 32 0, []⟩ nilV).toArray rfl (by rfl) HQ.out.1 HQ.out.2.1 HQ.out.2.2.1 ?_
        refine hK.out _ _ (HQ.out.2.2.2.1 s3) (fun _ => ?_)
        clear hK K
        try simp only [Act.put, List.setIfInBounds_toArray, List.set_cons_zero, List.set_cons_succ]
        refine wpAnyH_done (by kernel_rfl) ?_ _
        go_wp2_with fail
        go_meet
        exact ⟨rfl, HQ.out.2.2.2.2.1, HQ.out.2.2.2.2.2⟩
    · skip
      refine step_alloc_to _ _ rfl 30 rfl _ HW.out.2.2 rfl ?_
      have s3 := HS3.out s1
      refine hK.out _ _ s3 (fun _ => ?_)
      clear hK K
      try simp only [Act.put, List.setIfInBounds_toArray, List.set_cons_zero, List.set_cons_succ]
      refine wpAnyH_ready (rs := [3]) (by kernel_rfl) (by simp) ?_
      refine AllReadyH.cons (o := ⟨_, _, _, _, _, _⟩) rfl (fun K hK => ?_) AllReadyH.nil
      go_simp
      refine (bring_any s.n0 3 hs.n0.1 hs.n0.2 (by omega) (by omega) _).mono ?_
      rintro e w' ⟨rfl, rfl⟩
      go_wp2_with fail
      refine hK.out _ _ s3 (fun _ => ?_)
      clear hK K
      try simp only [Act.put, List.setIfInBounds_toArray, List.set_cons_zero, List.set_cons_succ]
      refine wpAnyH_ready (rs := [7]) (by kernel_rfl) (by simp) ?_
      refine AllReadyH.cons (o := ⟨_, _, _, _, _, _⟩) rfl (fun K hK => ?_) AllReadyH.nil
      go_simp
      refine (bring_any s.n1 1125899906842624 hs.n1.1 hs.n1.2 (by omega) (by omega) _).mono ?_
      rintro e w' ⟨rfl, rfl⟩
      go_wp2_with fail
      refine hK.out _ _ s3 (fun _ => ?_)
      clear hK K
      try simp only [Act.put, List.setIfInBounds_toArray, List.set_cons_zero, List.set_cons_succ]
      refine wpAnyH_take (i := 8) (oi := ⟨_, _, _, _, _, _⟩) (v := ?_) rfl (by kernel_rfl) (by kernel_rfl) (by kernel_rfl) (fun _ _ _ h => h) (Or.inl ⟨by rfl, ?_⟩) s3 ?_
      rotate_left
      · intro w' hSw; (try dsimp only at hSw); (go_simp; try with_reducible rfl)
      try simp only [Act.put, List.setIfInBounds_toArray, List.set_cons_zero, List.set_cons_succ]
      refine wpAnyH_ready (rs := [12]) (by kernel_rfl) (by simp) ?_
      refine AllReadyH.cons (o := ⟨_, _, _, _, _, _⟩) rfl (fun K hK => ?_) AllReadyH.nil
      go_simp
      refine (bring_any s.n2 4 hs.n2.1 hs.n2.2 (by omega) (by omega) _).mono ?_
      rintro e w' ⟨rfl, rfl⟩
      go_wp2_with fail
      refine hK.out _ _ s3 (fun _ => ?_)
      clear hK K
      try simp only [Act.put, List.setIfInBounds_toArray, List.set_cons_zero, List.set_cons_succ]
      refine wpAnyH_take (i := 13) (oi := ⟨_, _, _, _, _, _⟩) (v := ?_) rfl (by kernel_rfl) (by kernel_rfl) (by kernel_rfl) (fun _ _ _ h => h) (Or.inl ⟨by rfl, ?_⟩) s3 ?_
      rotate_left
      · intro w' hSw; (try dsimp only at hSw); (go_simp; try with_reducible rfl)
      try simp only [Act.put, List.setIfInBounds_toArray, List.set_cons_zero, List.set_cons_succ]
      refine wpAnyH_take (i := 14) (oi := ⟨_, _, _, _, _, _⟩) (v := ?_) rfl (by kernel_rfl) (by kernel_rfl) (by kernel_rfl) (fun _ _ _ h => h) (Or.inl ⟨by rfl, ?_⟩) s3 ?_
      rotate_left
      · intro w' hSw; (try dsimp only at hSw); (go_simp; try with_reducible rfl)
      try simp only [Act.put, List.setIfInBounds_toArray, List.set_cons_zero, List.set_cons_succ]
      refine wpAnyH_ready (rs := [16]) (by kernel_rfl) (by simp) ?_
      refine AllReadyH.cons (o := ⟨_, _, _, _, _, _⟩) rfl (fun K hK => ?_) AllReadyH.nil
      refine step_store_mid rfl 30 (.tmp 3) (.tmp 18) rfl wB.heap.size 0 (rqL ⟨s.n0 % 3, 1 + s.n1 % 1125899906842624, 1 + s.n2 % 4, 0, List.replicate 32 0, []⟩ nilV).toArray rfl (by rfl) HQ.out.1 HQ.out.2.1 HQ.out.2.2.1 ?_
      refine hK.out _ _ (HQ.out.2.2.2.1 s3) (fun _ => ?_)
      clear hK K
      try simp only [Act.put, List.setIfInBounds_toArray, List.set_cons_zero, List.set_cons_succ]
      refine wpAnyH_done (by kernel_rfl) ?_ _
      go_wp2_with fail
      go_meet
      exact ⟨rfl, HQ.out.2.2.2.2.1, HQ.out.2.2.2.2.2⟩
  case rest =>
    obtain ⟨rfl, hr3, hk3⟩ := hcut
    generalize wc = u at *
    obtain ⟨A, c, gb, rfl, hc, hm, hse, hgF⟩ := id hv
    obtain ⟨nm, hnm⟩ : ∃ nm, nmOf (s.b.take 32) = nm := ⟨_, rfl⟩
    have nml : nm.length = 32 := by rw [← hnm]; exact nmOf_take _
    have rS := hk3.row HR.out.1 (by simp)
    have rZ := hk3.row HR.out.2.1 (by simp)
    have kw := HR.out.2.2.1.then hk3 (by simp)
    have c8 : u.cell? ⟨w.heap.size, 8, none⟩ = some (.slice A s.b.length c) := (rS.cell 8).trans (by rw [← HY.out]; rfl)
    have c6 : u.cell? ⟨w.heap.size, 6, none⟩ = some (.int .i64 s.n3) := (rS.cell 6).trans (by rw [← HY.out]; rfl)
    have ck : u.cell? ⟨wB.heap.size, 2, none⟩ = some (.int .i64 (1 + s.n2 % 4)) := (hr3.cell 2).trans rfl
    have hg3 : w.heap.size + 1 < wB.heap.size := HR.out.2.1.lt
    have hvu : bytesV u F (.slice A s.b.length c) s.b := hv.keep kw (by simp)
    have HU := Lib.hid (And.intro hr3 (And.intro rS (And.intro rZ (And.intro kw hvu))))
    clear hr3 rS rZ kw hvu hk3
    have h4 : s.n2 % 4 = 0 ∨ s.n2 % 4 = 1 ∨ s.n2 % 4 = 2 ∨ s.n2 % 4 = 3 := by omega
    rcases h4 with h4 | h4 | h4 | h4
    · rw [h4] at ck HU
      go_upto_region 3 with fail
      have ht : ∀ wx, rowAt wx wB.heap.size 30 (rqL ⟨s.n0 % 3, 1 + s.n1 % 1125899906842624, 1 + 0, 0, List.replicate 32 0, []⟩ nilV).toArray → wx.there wB.heap.size 4 (nameL nm).toArray.size := fun wx hh => hh.there (by rw [List.size_toArray, nameL_len, nml, List.size_toArray, rqL_len (by exact List.length_replicate)]; omega)
      have hJ : (Tryd.prog.info? 28).map (·.size) = some (nameL nm).toArray.size := by rw [List.size_toArray, nameL_len, nml]; exact infoName
      have HT := Lib.hid (And.intro ht (And.intro hJ (all_oneCell_toArray (nameL_one nm))))
      clear ht hJ
      go_upto_region 4 with (first
        | (go_at_call 25; refine (name_any F s.b _ _ HU.out.2.2.2.2).mono ?_; rintro e u1 ⟨rfl, k1⟩; rw [hnm]; have Q := Lib.hid (And.intro (k1.row HU.out.1 (by simp)) k1); clear k1)
        | (refine wpList_store_mid rfl 28 (.tmp 25) (.tmp 24) rfl wB.heap.size 4 (nameL nm).toArray rfl rfl (HT.out.1 _ Q.out.1) HT.out.2.1 HT.out.2.2 ?_))
      have R1 := Q.out.1.setL (vs := nameL nm) (o := 4)
      rw [show putL (rqL ⟨s.n0 % 3, 1 + s.n1 % 1125899906842624, 1 + 0, 0, List.replicate 32 0, []⟩ nilV).toArray 4 (nameL nm) = (rqL ⟨s.n0 % 3, 1 + s.n1 % 1125899906842624, 1 + 0, 0, nm, []⟩ nilV).toArray by rw [rqL_split, rqL_split]; exact putL_mid [.int .i64 (s.n0 % 3), .int .i64 (1 + s.n1 % 1125899906842624), .int .i64 (1 + 0), .int .i64 0] _ _ _ (by rw [nameL_len, nameL_len, nml]; exact List.length_replicate)] at R1
      have K1 := (Q.out.2.more (T := [wB.heap.size]) (by simp)).setL (vs := nameL nm) (g := wB.heap.size) (o := 4) (.inl (by simp))
      simp only [Act.put]
      obtain ⟨v1, hv1⟩ : ∃ v1, u1.setCells wB.heap.size 4 (nameL nm) = v1 := ⟨_, rfl⟩
      rw [hv1] at R1 K1
      rw [show u1.setCells wB.heap.size 4 (nameL nm).toArray.toList = v1 from hv1]
      have HV1 := Lib.hid (And.intro R1 (And.intro (K1.row HU.out.2.1 (by simp; omega)) (And.intro (K1.row HU.out.2.2.1 (by simp; omega)) (HU.out.2.2.2.1.then K1 (fun x hx => .inr (by simp at hx; omega))))))
      have ck1 : v1.cell? ⟨wB.heap.size, 2, none⟩ = some (.int .i64 (1 + 0)) := (R1.cell 2).trans rfl
      clear R1 K1 hv1 Q c6 c8 ck
      
      obtain ⟨XL, hXL⟩ : ∃ XL, rqL ⟨s.n0 % 3, 1 + s.n1 % 1125899906842624, 1 + 0, 0, nm, []⟩ nilV = XL := ⟨_, rfl⟩
      have xl : XL.length = 37 := by rw [← hXL]; exact rqL_len nml
      have xo : ∀ y ∈ XL, y.oneCell' = true := by rw [← hXL]; exact rqL_one _ rfl
      have hrow := HV1.out.1
      rw [hXL] at hrow
      have rr := HV1.out.2.2.1.setL (vs := XL) (o := 0)
      rw [putL_all (by rw [xl, List.size_toArray]; exact HR.out.2.2.2.2.symm)] at rr
      have ht := HV1.out.2.2.1.there (o := 0) (n := XL.toArray.size) (by simp only [List.size_toArray]; have := HR.out.2.2.2.2; omega)
      have hJ : (Tryd.prog.info? 30).map (·.size) = some XL.toArray.size := by rw [List.size_toArray, xl]; exact info_rq
      have hJl : (Tryd.prog.info? 30).map (·.size) = some XL.length := by rw [xl]; exact info_rq
      have HS := Lib.hid (And.intro hrow.rangeAll (And.intro rr (And.intro ht (And.intro hJl (And.intro hJ (all_oneCell_toArray xo))))))
      have HX := Lib.hid hXL
      clear hrow rr ht hJ hJl xl xo hXL
      go_wp2_with (first
        | (refine wpList_load_mid rfl 30 (.tmp 3) rfl wB.heap.size 0 rfl _ _ HS.out.1 Tryd.underlying30 rfl HS.out.2.2.2.1 ?_)
        | (refine wpList_store_mid rfl 30 (.tmp 2) (.tmp 54) rfl (w.heap.size + 1) 0 XL.toArray rfl rfl HS.out.2.2.1 HS.out.2.2.2.2.1 HS.out.2.2.2.2.2 ?_))
      refine bodyPost_ret (results_cell_row rfl _ _ (w.heap.size + 1) 30 _ (0, 0) _ rfl HS.out.2.1 Tryd.underlying30 rfl HS.out.2.2.2.2.1) rfl ?_
      have hq : rqOf s = ⟨s.n0 % 3, 1 + s.n1 % 1125899906842624, 1 + 0, 0, nm, []⟩ := by unfold rqOf; first | (rw [h4, hnm]; rfl) | (rw [h4]; rfl)
      
      refine ⟨nilV, by rw [hq, HX.out], [], ?_, fun y hy => by simp at hy, HV1.out.2.2.2.setL (.inr (by omega))⟩
      rw [hq]
      exact ⟨nml, bytesV.nil _ _⟩
    · rw [h4] at ck HU
      go_upto_region 3 with fail
      have ht : ∀ wx, rowAt wx wB.heap.size 30 (rqL ⟨s.n0 % 3, 1 + s.n1 % 1125899906842624, 1 + 1, 0, List.replicate 32 0, []⟩ nilV).toArray → wx.there wB.heap.size 4 (nameL nm).toArray.size := fun wx hh => hh.there (by rw [List.size_toArray, nameL_len, nml, List.size_toArray, rqL_len (by exact List.length_replicate)]; omega)
      have hJ : (Tryd.prog.info? 28).map (·.size) = some (nameL nm).toArray.size := by rw [List.size_toArray, nameL_len, nml]; exact infoName
      have HT := Lib.hid (And.intro ht (And.intro hJ (all_oneCell_toArray (nameL_one nm))))
      clear ht hJ
      go_upto_region 4 with (first
        | (go_at_call 25; refine (name_any F s.b _ _ HU.out.2.2.2.2).mono ?_; rintro e u1 ⟨rfl, k1⟩; rw [hnm]; have Q := Lib.hid (And.intro (k1.row HU.out.1 (by simp)) k1); clear k1)
        | (refine wpList_store_mid rfl 28 (.tmp 25) (.tmp 24) rfl wB.heap.size 4 (nameL nm).toArray rfl rfl (HT.out.1 _ Q.out.1) HT.out.2.1 HT.out.2.2 ?_))
      have R1 := Q.out.1.setL (vs := nameL nm) (o := 4)
      rw [show putL (rqL ⟨s.n0 % 3, 1 + s.n1 % 1125899906842624, 1 + 1, 0, List.replicate 32 0, []⟩ nilV).toArray 4 (nameL nm) = (rqL ⟨s.n0 % 3, 1 + s.n1 % 1125899906842624, 1 + 1, 0, nm, []⟩ nilV).toArray by rw [rqL_split, rqL_split]; exact putL_mid [.int .i64 (s.n0 % 3), .int .i64 (1 + s.n1 % 1125899906842624), .int .i64 (1 + 1), .int .i64 0] _ _ _ (by rw [nameL_len, nameL_len, nml]; exact List.length_replicate)] at R1
      have K1 := (Q.out.2.more (T := [wB.heap.size]) (by simp)).setL (vs := nameL nm) (g := wB.heap.size) (o := 4) (.inl (by simp))
      simp only [Act.put]
      obtain ⟨v1, hv1⟩ : ∃ v1, u1.setCells wB.heap.size 4 (nameL nm) = v1 := ⟨_, rfl⟩
      rw [hv1] at R1 K1
      rw [show u1.setCells wB.heap.size 4 (nameL nm).toArray.toList = v1 from hv1]
      have HV1 := Lib.hid (And.intro R1 (And.intro (K1.row HU.out.2.1 (by simp; omega)) (And.intro (K1.row HU.out.2.2.1 (by simp; omega)) (HU.out.2.2.2.1.then K1 (fun x hx => .inr (by simp at hx; omega))))))
      have ck1 : v1.cell? ⟨wB.heap.size, 2, none⟩ = some (.int .i64 (1 + 1)) := (R1.cell 2).trans rfl
      clear R1 K1 hv1 Q c6 c8 ck
      
      have c6 : v1.cell? ⟨w.heap.size, 6, none⟩ = some (.int .i64 s.n3) := (HV1.out.2.1.cell 6).trans (by rw [← HY.out]; rfl)
      have c3 : v1.cell? ⟨wB.heap.size, 3, none⟩ = some (.int .i64 0) := (HV1.out.1.cell 3).trans rfl
      have f3 := HV1.out.1.free 3
      have hw3 : IntKind.i64.wrap (1 + s.n3 % 1125899906842624) = 1 + s.n3 % 1125899906842624 := wraps_i64 _ (by omega) (by omega)
      go_upto_region 7 with (go_at_call 20; refine (bring_any s.n3 1125899906842624 hs.n3.1 hs.n3.2 (by omega) (by omega) _).mono ?_; rintro e w1 ⟨rfl, rfl⟩)
      have R2 := HV1.out.1.set 3 (.int .i64 (1 + s.n3 % 1125899906842624))
      rw [show (rqL ⟨s.n0 % 3, 1 + s.n1 % 1125899906842624, 1 + 1, 0, nm, []⟩ nilV).toArray.setIfInBounds 3 (.int .i64 (1 + s.n3 % 1125899906842624)) = (rqL ⟨s.n0 % 3, 1 + s.n1 % 1125899906842624, 1 + 1, 1 + s.n3 % 1125899906842624, nm, []⟩ nilV).toArray by simp [rqL]] at R2
      have K2 := kset v1 wB.heap.size 3 (.int .i64 (1 + s.n3 % 1125899906842624))
      obtain ⟨v2, hv2⟩ : ∃ v2, v1.setCell ⟨wB.heap.size, 3, none⟩ (.int .i64 (1 + s.n3 % 1125899906842624)) = v2 := ⟨_, rfl⟩
      rw [hv2] at R2 K2 ⊢
      have HV2 := Lib.hid (And.intro R2 (And.intro (K2.row HV1.out.2.1 (by simp; omega)) (And.intro (K2.row HV1.out.2.2.1 (by simp; omega)) (HV1.out.2.2.2.then K2 (fun x hx => .inr (by simp at hx; omega))))))
      clear R2 K2 hv2 c6 c3 f3 ck1
      obtain ⟨i0, hi0, hz0, hz1, hz2⟩ := info_parts infoU8c
      have HI := Lib.hid (And.intro hi0 (And.intro hz0 (And.intro hz1 hz2)))
      clear hi0 hz0 hz1 hz2
      obtain ⟨n, hn⟩ : ∃ n, (s.b.take 1000).length = n := ⟨_, rfl⟩
      have e1 : (if 1000 < (s.b.length : Int) then 1000 else (s.b.length : Int)).toNat = n := by rw [← hn, List.length_take]; split <;> omega
      have E1 := Lib.hid e1
      have hn1 : n ≤ 1000 := by rw [← hn, List.length_take]; omega
      have ka := (keepBut.refl [] v2).alloc (.cells #[.int .u8 7] 5)
      have rN := rowAt.new v2 5 #[.int .u8 7]
      have hlt2 : wB.heap.size < v2.heap.size := HV2.out.1.lt
      have hsn : reads (v2.alloc (.cells #[.int .u8 7] 5)) A gb n 1 ((s.b.take 1000).map bv) := by
        have hh := ((hse.keep (HV2.out.2.2.2.then ka (by simp)) (by simp)).take 1000).reads
        rwa [hn] at hh
      have hown : owns (v2.alloc (.cells #[.int .u8 7] 5)) 5 1 (.slice (some ⟨v2.heap.size, 0, none⟩) 1 1) 1 [.int .u8 7] := ⟨rfl, .inr ⟨v2.heap.size, 1, _, rfl, rN, by omega, by simp [maxLen], rfl, rfl⟩⟩
      have c8 : (v2.alloc (.cells #[.int .u8 7] 5)).cell? ⟨w.heap.size, 8, none⟩ = some (.slice A s.b.length c) := ((ka.row HV2.out.2.1 (by simp)).cell 8).trans (by rw [← HY.out]; rfl)
      have HO := Lib.hid (And.intro hown (And.intro hsn (And.intro hn (And.intro ka hlt2))))
      clear hown hsn hn ka hlt2 rN e1
      go_upto_region 10 with (simp only [E1.out]; at_builtin; refine wp_append _ rfl (.tmp 36) (.tmp 43) 23 rfl 5 i0 (.int .u8 0) 1 1 Tryd.underlying23 HI.out.1 HI.out.2.1 HI.out.2.2.1 HI.out.2.2.2 rfl (by decide) (.slice (some ⟨v2.heap.size, 0, none⟩) 1 1) 1 [.int .u8 7] rfl HO.out.1 A gb n c ((s.b.take 1000).map bv) rfl HO.out.2.1 (by intro y hy; obtain ⟨b, _, rfl⟩ := List.mem_map.1 hy; rfl) (by omega) (by unfold maxLen; omega) ?_; intro A6 c9 w6 hown6 hkb6 hloc6; have k6 := HO.out.2.2.2.1.then hkb6 (fun x hx => .inr (by simp [homes_some] at hx; omega)); have R6 := k6.row HV2.out.1 (by simp); have f36 := R6.free 36; have c36 : w6.cell? ⟨wB.heap.size, 36, none⟩ = some nilV := (R6.cell 36).trans (rqL_env nml); have H6 := Lib.hid (And.intro R6 (And.intro hown6 (And.intro hloc6 k6))); clear R6 hown6 hloc6 hkb6 k6 c8)
      generalize (if 1000 < (s.b.length : Int) then 1000 else (s.b.length : Int)) = zz
      have R7 := H6.out.1.set 36 (.slice A6 (1 + n) c9)
      rw [rqL_env_set nml (7 :: s.b.take 1000)] at R7
      have K7 := kset w6 wB.heap.size 36 (.slice A6 (1 + n) c9)
      have hv7 : ∀ y ∈ homes (.slice A6 (1 + n) c9), v2.heap.size ≤ y ∧ y < w6.heap.size := fun y hy => ⟨(H6.out.2.2.1 y hy).elim (fun h => by simp [homes_some] at h; omega) (fun h => by simp at h; omega), H6.out.2.1.lt y hy⟩
      have hb7 : bytesV w6 (homes (.slice A6 (1 + n) c9)) (.slice A6 (1 + n) c9) (7 :: s.b.take 1000) := by
        obtain ⟨A3, c3, e3, h31, h32, h33, h34⟩ := H6.out.2.1.form
        injection e3 with e3a e3b e3c
        subst e3a e3c
        obtain ⟨g3, hg3⟩ := homes_one (.slice A6 (1 + n) c9)
        have hl : (7 :: s.b.take 1000 : List UInt8).length = 1 + n := by rw [List.length_cons, HO.out.2.2.1]; omega
        have hr := h34 g3 hg3
        refine ⟨A6, c9, g3, by rw [hl], by rw [hl]; exact h31, h32, reads.seenB (by rw [hl]; exact hr), fun hne => ?_⟩
        obtain ⟨o, hA, _⟩ := hr.2 (by omega)
        rw [hA]; simp [homes_some]
      have hb8 := hb7.keep K7 (fun y hy => by have := (hv7 y hy).1; have := HO.out.2.2.2.2; simp; omega)
      have hsz := K7.size
      obtain ⟨v3, hv3⟩ : ∃ v3, w6.setCell ⟨wB.heap.size, 36, none⟩ (.slice A6 (1 + n) c9) = v3 := ⟨_, rfl⟩
      rw [hv3] at R7 K7 hb8 hsz ⊢
      have HV3 := Lib.hid (And.intro R7 (And.intro (K7.row (H6.out.2.2.2.row HV2.out.2.1 (by simp)) (by simp; omega)) (And.intro (K7.row (H6.out.2.2.2.row HV2.out.2.2.1 (by simp)) (by simp; omega)) ((HV2.out.2.2.2.then H6.out.2.2.2 (by simp)).then K7 (fun x hx => .inr (by simp at hx; omega))))))
      have HB := Lib.hid (And.intro hb8 (And.intro hv7 hsz))
      clear R7 K7 hb7 hb8 hv7 hsz hv3 f36 c36
      obtain ⟨XL, hXL⟩ : ∃ XL, rqL ⟨s.n0 % 3, 1 + s.n1 % 1125899906842624, 1 + 1, 1 + s.n3 % 1125899906842624, nm, 7 :: s.b.take 1000⟩ (.slice A6 (1 + n) c9) = XL := ⟨_, rfl⟩
      have xl : XL.length = 37 := by rw [← hXL]; exact rqL_len nml
      have xo : ∀ y ∈ XL, y.oneCell' = true := by rw [← hXL]; exact rqL_one _ rfl
      have hrow := HV3.out.1
      rw [hXL] at hrow
      have rr := HV3.out.2.2.1.setL (vs := XL) (o := 0)
      rw [putL_all (by rw [xl, List.size_toArray]; exact HR.out.2.2.2.2.symm)] at rr
      have ht := HV3.out.2.2.1.there (o := 0) (n := XL.toArray.size) (by simp only [List.size_toArray]; have := HR.out.2.2.2.2; omega)
      have hJ : (Tryd.prog.info? 30).map (·.size) = some XL.toArray.size := by rw [List.size_toArray, xl]; exact info_rq
      have hJl : (Tryd.prog.info? 30).map (·.size) = some XL.length := by rw [xl]; exact info_rq
      have HS := Lib.hid (And.intro hrow.rangeAll (And.intro rr (And.intro ht (And.intro hJl (And.intro hJ (all_oneCell_toArray xo))))))
      have HX := Lib.hid hXL
      clear hrow rr ht hJ hJl xl xo hXL
      go_wp2_with (first
        | (refine wpList_load_mid rfl 30 (.tmp 3) rfl wB.heap.size 0 rfl _ _ HS.out.1 Tryd.underlying30 rfl HS.out.2.2.2.1 ?_)
        | (refine wpList_store_mid rfl 30 (.tmp 2) (.tmp 54) rfl (w.heap.size + 1) 0 XL.toArray rfl rfl HS.out.2.2.1 HS.out.2.2.2.2.1 HS.out.2.2.2.2.2 ?_))
      refine bodyPost_ret (results_cell_row rfl _ _ (w.heap.size + 1) 30 _ (0, 0) _ rfl HS.out.2.1 Tryd.underlying30 rfl HS.out.2.2.2.2.1) rfl ?_
      have hq : rqOf s = ⟨s.n0 % 3, 1 + s.n1 % 1125899906842624, 1 + 1, 1 + s.n3 % 1125899906842624, nm, 7 :: s.b.take 1000⟩ := by unfold rqOf; first | (rw [h4, hnm]; rfl) | (rw [h4]; rfl)
      
      have hgl : w.heap.size + 1 < v2.heap.size := by have := HO.out.2.2.2.2; omega
      have ks := (keepBut.refl [w.heap.size + 1] v3).setL (vs := XL) (g := w.heap.size + 1) (o := 0) (by simp)
      have ksz := ks.size
      refine ⟨.slice A6 (1 + n) c9, by rw [hq, HX.out], homes (.slice A6 (1 + n) c9), ?_, fun y hy => ⟨by have := (HB.out.2.1 y hy).1; omega, by have := (HB.out.2.1 y hy).2; have := HB.out.2.2; omega⟩, HV3.out.2.2.2.setL (.inr (by omega))⟩
      rw [hq]
      exact ⟨nml, HB.out.1.keep ks (fun y hy => by have := (HB.out.2.1 y hy).1; simp; omega)⟩
    · rw [h4] at ck HU
      go_upto_region 3 with fail
      have ht : ∀ wx, rowAt wx wB.heap.size 30 (rqL ⟨s.n0 % 3, 1 + s.n1 % 1125899906842624, 1 + 2, 0, List.replicate 32 0, []⟩ nilV).toArray → wx.there wB.heap.size 4 (nameL nm).toArray.size := fun wx hh => hh.there (by rw [List.size_toArray, nameL_len, nml, List.size_toArray, rqL_len (by exact List.length_replicate)]; omega)
      have hJ : (Tryd.prog.info? 28).map (·.size) = some (nameL nm).toArray.size := by rw [List.size_toArray, nameL_len, nml]; exact infoName
      have HT := Lib.hid (And.intro ht (And.intro hJ (all_oneCell_toArray (nameL_one nm))))
      clear ht hJ
      go_upto_region 4 with (first
        | (go_at_call 25; refine (name_any F s.b _ _ HU.out.2.2.2.2).mono ?_; rintro e u1 ⟨rfl, k1⟩; rw [hnm]; have Q := Lib.hid (And.intro (k1.row HU.out.1 (by simp)) k1); clear k1)
        | (refine wpList_store_mid rfl 28 (.tmp 25) (.tmp 24) rfl wB.heap.size 4 (nameL nm).toArray rfl rfl (HT.out.1 _ Q.out.1) HT.out.2.1 HT.out.2.2 ?_))
      have R1 := Q.out.1.setL (vs := nameL nm) (o := 4)
      rw [show putL (rqL ⟨s.n0 % 3, 1 + s.n1 % 1125899906842624, 1 + 2, 0, List.replicate 32 0, []⟩ nilV).toArray 4 (nameL nm) = (rqL ⟨s.n0 % 3, 1 + s.n1 % 1125899906842624, 1 + 2, 0, nm, []⟩ nilV).toArray by rw [rqL_split, rqL_split]; exact putL_mid [.int .i64 (s.n0 % 3), .int .i64 (1 + s.n1 % 1125899906842624), .int .i64 (1 + 2), .int .i64 0] _ _ _ (by rw [nameL_len, nameL_len, nml]; exact List.length_replicate)] at R1
      have K1 := (Q.out.2.more (T := [wB.heap.size]) (by simp)).setL (vs := nameL nm) (g := wB.heap.size) (o := 4) (.inl (by simp))
      simp only [Act.put]
      obtain ⟨v1, hv1⟩ : ∃ v1, u1.setCells wB.heap.size 4 (nameL nm) = v1 := ⟨_, rfl⟩
      rw [hv1] at R1 K1
      rw [show u1.setCells wB.heap.size 4 (nameL nm).toArray.toList = v1 from hv1]
      have HV1 := Lib.hid (And.intro R1 (And.intro (K1.row HU.out.2.1 (by simp; omega)) (And.intro (K1.row HU.out.2.2.1 (by simp; omega)) (HU.out.2.2.2.1.then K1 (fun x hx => .inr (by simp at hx; omega))))))
      have ck1 : v1.cell? ⟨wB.heap.size, 2, none⟩ = some (.int .i64 (1 + 2)) := (R1.cell 2).trans rfl
      clear R1 K1 hv1 Q c6 c8 ck
      
      obtain ⟨XL, hXL⟩ : ∃ XL, rqL ⟨s.n0 % 3, 1 + s.n1 % 1125899906842624, 1 + 2, 0, nm, []⟩ nilV = XL := ⟨_, rfl⟩
      have xl : XL.length = 37 := by rw [← hXL]; exact rqL_len nml
      have xo : ∀ y ∈ XL, y.oneCell' = true := by rw [← hXL]; exact rqL_one _ rfl
      have hrow := HV1.out.1
      rw [hXL] at hrow
      have rr := HV1.out.2.2.1.setL (vs := XL) (o := 0)
      rw [putL_all (by rw [xl, List.size_toArray]; exact HR.out.2.2.2.2.symm)] at rr
      have ht := HV1.out.2.2.1.there (o := 0) (n := XL.toArray.size) (by simp only [List.size_toArray]; have := HR.out.2.2.2.2; omega)
      have hJ : (Tryd.prog.info? 30).map (·.size) = some XL.toArray.size := by rw [List.size_toArray, xl]; exact info_rq
      have hJl : (Tryd.prog.info? 30).map (·.size) = some XL.length := by rw [xl]; exact info_rq
      have HS := Lib.hid (And.intro hrow.rangeAll (And.intro rr (And.intro ht (And.intro hJl (And.intro hJ (all_oneCell_toArray xo))))))
      have HX := Lib.hid hXL
      clear hrow rr ht hJ hJl xl xo hXL
      go_wp2_with (first
        | (refine wpList_load_mid rfl 30 (.tmp 3) rfl wB.heap.size 0 rfl _ _ HS.out.1 Tryd.underlying30 rfl HS.out.2.2.2.1 ?_)
        | (refine wpList_store_mid rfl 30 (.tmp 2) (.tmp 54) rfl (w.heap.size + 1) 0 XL.toArray rfl rfl HS.out.2.2.1 HS.out.2.2.2.2.1 HS.out.2.2.2.2.2 ?_))
      refine bodyPost_ret (results_cell_row rfl _ _ (w.heap.size + 1) 30 _ (0, 0) _ rfl HS.out.2.1 Tryd.underlying30 rfl HS.out.2.2.2.2.1) rfl ?_
      have hq : rqOf s = ⟨s.n0 % 3, 1 + s.n1 % 1125899906842624, 1 + 2, 0, nm, []⟩ := by unfold rqOf; first | (rw [h4, hnm]; rfl) | (rw [h4]; rfl)
      
      refine ⟨nilV, by rw [hq, HX.out], [], ?_, fun y hy => by simp at hy, HV1.out.2.2.2.setL (.inr (by omega))⟩
      rw [hq]
      exact ⟨nml, bytesV.nil _ _⟩
    · rw [h4] at ck HU
      have hw3 : IntKind.i64.wrap (1 + s.n3 % 255) = 1 + s.n3 % 255 := wraps_i64 _ (by omega) (by omega)
      have c3 : u.cell? ⟨wB.heap.size, 3, none⟩ = some (.int .i64 0) := (HU.out.1.cell 3).trans rfl
      have f3 := HU.out.1.free 3
      go_upto_region 10 with (go_at_call 20; refine (bring_any s.n3 255 hs.n3.1 hs.n3.2 (by omega) (by omega) _).mono ?_; rintro e w1 ⟨rfl, rfl⟩)
      have R1 := HU.out.1.set 3 (.int .i64 (1 + s.n3 % 255))
      rw [show (rqL ⟨s.n0 % 3, 1 + s.n1 % 1125899906842624, 1 + 3, 0, List.replicate 32 0, []⟩ nilV).toArray.setIfInBounds 3 (.int .i64 (1 + s.n3 % 255)) = (rqL ⟨s.n0 % 3, 1 + s.n1 % 1125899906842624, 1 + 3, 1 + s.n3 % 255, List.replicate 32 0, []⟩ nilV).toArray by simp [rqL]] at R1
      have K1 := kset u wB.heap.size 3 (.int .i64 (1 + s.n3 % 255))
      obtain ⟨v1, hv1⟩ : ∃ v1, u.setCell ⟨wB.heap.size, 3, none⟩ (.int .i64 (1 + s.n3 % 255)) = v1 := ⟨_, rfl⟩
      rw [hv1] at R1 K1 ⊢
      have HV1 := Lib.hid (And.intro R1 (And.intro (K1.row HU.out.2.1 (by simp; omega)) (And.intro (K1.row HU.out.2.2.1 (by simp; omega)) (HU.out.2.2.2.1.then K1 (fun x hx => .inr (by simp at hx; omega))))))
      clear R1 K1 hv1 c6 c8 ck c3 f3
      obtain ⟨XL, hXL⟩ : ∃ XL, rqL ⟨s.n0 % 3, 1 + s.n1 % 1125899906842624, 1 + 3, 1 + s.n3 % 255, List.replicate 32 0, []⟩ nilV = XL := ⟨_, rfl⟩
      have xl : XL.length = 37 := by rw [← hXL]; exact rqL_len (by exact List.length_replicate)
      have xo : ∀ y ∈ XL, y.oneCell' = true := by rw [← hXL]; exact rqL_one _ rfl
      have hrow := HV1.out.1
      rw [hXL] at hrow
      have rr := HV1.out.2.2.1.setL (vs := XL) (o := 0)
      rw [putL_all (by rw [xl, List.size_toArray]; exact HR.out.2.2.2.2.symm)] at rr
      have ht := HV1.out.2.2.1.there (o := 0) (n := XL.toArray.size) (by simp only [List.size_toArray]; have := HR.out.2.2.2.2; omega)
      have hJ : (Tryd.prog.info? 30).map (·.size) = some XL.toArray.size := by rw [List.size_toArray, xl]; exact info_rq
      have hJl : (Tryd.prog.info? 30).map (·.size) = some XL.length := by rw [xl]; exact info_rq
      have HS := Lib.hid (And.intro hrow.rangeAll (And.intro rr (And.intro ht (And.intro hJl (And.intro hJ (all_oneCell_toArray xo))))))
      have HX := Lib.hid hXL
      clear hrow rr ht hJ hJl xl xo hXL
      go_wp2_with (first
        | (refine wpList_load_mid rfl 30 (.tmp 3) rfl wB.heap.size 0 rfl _ _ HS.out.1 Tryd.underlying30 rfl HS.out.2.2.2.1 ?_)
        | (refine wpList_store_mid rfl 30 (.tmp 2) (.tmp 54) rfl (w.heap.size + 1) 0 XL.toArray rfl rfl HS.out.2.2.1 HS.out.2.2.2.2.1 HS.out.2.2.2.2.2 ?_))
      refine bodyPost_ret (results_cell_row rfl _ _ (w.heap.size + 1) 30 _ (0, 0) _ rfl HS.out.2.1 Tryd.underlying30 rfl HS.out.2.2.2.2.1) rfl ?_
      have hq : rqOf s = ⟨s.n0 % 3, 1 + s.n1 % 1125899906842624, 1 + 3, 1 + s.n3 % 255, List.replicate 32 0, []⟩ := by unfold rqOf; first | (rw [h4, hnm]; rfl) | (rw [h4]; rfl)
      
      refine ⟨nilV, by rw [hq, HX.out], [], ?_, fun y hy => by simp at hy, HV1.out.2.2.2.setL (.inr (by omega))⟩
      rw [hq]
      exact ⟨List.length_replicate, bytesV.nil _ _⟩
end Go.Proofs.YthfdkonhjpdflaaDoor
end
