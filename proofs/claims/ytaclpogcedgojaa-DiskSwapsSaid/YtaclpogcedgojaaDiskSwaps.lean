/-
  DiskSwaps: a swap is there, or not, never in part; what is there then is synced.
-/
import Derived.Test.YtaclpogcedgojaaDiskTears
namespace Go.Proofs.Ytaclpogcedgojaa
open Go.RowKit
set_option linter.unusedVariables false

theorem swaps_die (l1 l2 : List UInt8) (k : Nat) (arm : Option Nat) (t : List (List UInt8)) :
    DS.die ⟨l1 ++ l2, l1.length, false, arm, t⟩ k = ⟨(l1 ++ l2).take (min (l1.length + k) (l1 ++ l2).length), min (l1.length + k) (l1 ++ l2).length, true, arm, t⟩ := by
  have e : l1.length + min k ((l1 ++ l2).length - l1.length) = min (l1.length + k) (l1 ++ l2).length := by simp only [List.length_append]; omega
  simp only [DS.die, e]
def swapsCut (w0 : World) (p : Nat) (l : List UInt8) (half : Nat) (v : Value) (wx : World) : Prop :=
  ∃ F, v = .bool false ∧ dOn w0 wx p F ⟨l, half, false, none, [l.take half, l.drop half]⟩

set_option maxRecDepth 100000 in
set_option maxHeartbeats 2000000 in
theorem diskSwaps_walk (A : Option Addr) (g c : Nat) (l0 : List UInt8) (B : Option Addr) (h d : Nat) (m0 : List UInt8) (x0 x1 : Int) (w : World)
    (hl : seen w A g l0) (hlc : l0.length ≤ c) (hcm : c ≤ maxLen) (hm : seen w B h m0) (hmc : m0.length ≤ d) (hdm : d ≤ maxLen)
    (hx0 : -9223372036854775808 ≤ x0 ∧ x0 ≤ 9223372036854775807) (hx1 : -9223372036854775808 ≤ x1 ∧ x1 ≤ 9223372036854775807) :
    Calls Try.prog 6 #[.slice A l0.length c, .slice B m0.length d, .agg #[.int .i64 x0, .int .i64 x1]] w (yesPost w) := by
  unfold maxLen at hcm hdm
  obtain ⟨l, hL⟩ : ∃ l, l = l0.take 300 := ⟨_, rfl⟩
  obtain ⟨m, hM⟩ : ∃ m, m = m0.take 300 := ⟨_, rfl⟩
  have sl : seen w A g l := by rw [hL]; exact hl.take 300
  have sm : seen w B h m := by rw [hM]; exact hm.take 300
  have hld : l.length ≤ c := by rw [hL, List.length_take]; omega
  have l3 : l.length ≤ 300 := by rw [hL, List.length_take]; omega
  have m3 : m.length ≤ 300 := by rw [hM, List.length_take]; omega
  have e1 : (if 300 < (l0.length : Int) then 300 else (l0.length : Int)).toNat = l.length := by rw [hL, List.length_take]; split <;> omega
  have e2 : (if 300 < (m0.length : Int) then 300 else (m0.length : Int)).toNat = m.length := by rw [hM, List.length_take]; split <;> omega
  have E1 := Lib.hid e1
  have E2 := Lib.hid e2
  clear e1 e2 hL hM hl hm
  go_enter Try.func6, Try.ntmps6
  go_upto_region 1 with fail
  go_cut [0, 1] (fun v0 v1 wx => tearsCut1 w A l.length c B m.length d x0 x1 v0 v1 wx)
  case first =>
    go_quiet (fail)
    go_wp2_with fail
    all_goals
      go_meet
      refine ⟨?_, ?_, ((keepBut.refl [] w).alloc _).drewN _, rowAt.new w _ _⟩
      · rw [← E1.out]; congr 1; split <;> omega
      · rw [← E2.out]; congr 1; split <;> omega
  case rest =>
    obtain ⟨rfl, rfl, k1, r1⟩ := hcut
    generalize wc = wA at *
    have sl' : seen wA A g l := sl.keep k1 (by simp)
    have sm' : seen wA B h m := sm.keep k1 (by simp)
    clear sl sm E1 E2 hlc hmc
    obtain ⟨half, hh⟩ : ∃ half : Nat, half = l.length / 2 := ⟨_, rfl⟩
    have hh0 : half ≤ l.length := by omega
    have hh1 : ((l.length : Int) / 2) = (half : Int) := by omega
    have HH := Lib.hid hh1
    have HH0 := Lib.hid hh
    clear hh hh1
    go_wp2_with fail
    refine (newD_any _).mono ?_; intro e w1 hq; obtain ⟨p, F1, rfl, h1⟩ := dOn.start (keepBut.refl [] wA) hq; clear hq
    go_upto_region 4 with fail
    rw [HH.out]
    have e1 : (l.take half).length = half := by rw [List.length_take]; omega
    have e2 : (l.drop half).length = l.length - half := by rw [List.length_drop]
    have HE := Lib.hid (And.intro e1 e2)
    clear e1 e2
    go_cut [42] (fun v42 wx => swapsCut wA p l half v42 wx)
    case first =>
      have q1 : DS.new.write (l.take half) = (0, ⟨l.take half, 0, false, none, [l.take half]⟩) := by
        have : ¬ 1048576 < (l.take half).length := by rw [HE.out.1]; omega
        simp only [DS.write, DS.new, List.length_nil, Nat.zero_add, if_neg this]
        simp
      have q2 : DS.sync ⟨l.take half, 0, false, none, [l.take half]⟩ = (0, ⟨l.take half, half, false, none, [l.take half]⟩) := by
        show (0, (⟨l.take half, (l.take half).length, false, none, [l.take half]⟩ : DS)) = _
        rw [HE.out.1]
      have q3 : DS.write ⟨l.take half, half, false, none, [l.take half]⟩ (l.drop half) = (0, ⟨l, half, false, none, [l.take half, l.drop half]⟩) := by
        have : ¬ 1048576 < (l.take half).length + (l.drop half).length := by rw [HE.out.1, HE.out.2]; omega
        simp only [DS.write, if_neg this, List.take_append_drop]
        simp
      have Q := Lib.hid (And.intro q1 (And.intro q2 q3))
      have ta := (sl'.take half)
      have tb := (sl'.drop half)
      clear q1 q2 q3
      have hsl : half ≤ c := by omega
      by_cases hch : c = half
      · have hl0 : l.length = 0 := by have := HH0.out; omega
        obtain rfl : l = [] := List.eq_nil_of_length_eq_zero hl0
        obtain rfl : half = 0 := by simpa using hh0
        subst hch
        clear hl0 Q ta tb
        go_wp2_with fail
        refine (writeD_n _ _ _ _ g _ 0 [] _ rfl h1.1 (seen.nil _ _ _) (fun h => absurd rfl h) (by omega) (by simp [DS.new])).mono ?_; intro e w2 hq; obtain ⟨rfl, F2, h2, -, -⟩ := h1.step hq; clear hq h1
        rw [show DS.new.write [] = (0, ⟨[], 0, false, none, [[]]⟩) from rfl] at h2 ⊢
        go_wp2_with fail
        refine (sync_any _ _ _ _ h2.1).mono ?_; intro e w3 hq; obtain ⟨rfl, F3, h3, -, -⟩ := h2.step hq; clear hq h2
        rw [show DS.sync ⟨[], 0, false, none, [[]]⟩ = (0, ⟨[], 0, false, none, [[]]⟩) from rfl] at h3 ⊢
        go_wp2_with fail
        refine (writeD_n _ _ _ _ g _ 0 [] _ rfl h3.1 (seen.nil _ _ _) (fun h => absurd rfl h) (by omega) (by simp)).mono ?_; intro e w4 hq; obtain ⟨rfl, F4, h4, -, -⟩ := h3.step hq; clear hq h3
        rw [show DS.write ⟨[], 0, false, none, [[]]⟩ [] = (0, ⟨[], 0, false, none, [[], []]⟩) from rfl] at h4 ⊢
        go_wp2_with fail
        go_meet
        exact ⟨F4, rfl, h4⟩
      · go_wp2_with fail
        have a1 := h1.arg ta
        refine (writeD_n _ _ _ _ _ _ half (l.take half) _ HE.out.1 h1.1 a1.1 a1.2 (by omega) (by simp [DS.new])).mono ?_; intro e w2 hq; obtain ⟨rfl, F2, h2, -, -⟩ := h1.step hq; clear hq h1 a1
        rw [Q.out.1] at h2 ⊢
        go_wp2_with fail
        refine (sync_any _ _ _ _ h2.1).mono ?_; intro e w3 hq; obtain ⟨rfl, F3, h3, -, -⟩ := h2.step hq; clear hq h2
        rw [Q.out.2.1] at h3 ⊢
        have a3 := h3.arg tb
        go_wp2_with fail
        refine (writeD_n _ _ _ _ g _ (l.length - half) (l.drop half) _ HE.out.2 h3.1 a3.1 a3.2 (by omega) (by simp)).mono ?_; intro e w4 hq; obtain ⟨rfl, F4, h4, -, -⟩ := h3.step hq; clear hq h3 a3
        rw [Q.out.2.2] at h4 ⊢
        go_wp2_with fail
        go_meet
        exact ⟨F4, rfl, h4⟩
    case rest =>
      obtain ⟨F4, rfl, h4⟩ := hcut
      generalize wc = w4 at *
      clear h1
      have c0 : w4.cell? ⟨w.heap.size, 0, none⟩ = some (.int .i64 x0) := (h4.2.2.row r1 (by simp)).cell 0
      have c1 : w4.cell? ⟨w.heap.size, 1, none⟩ = some (.int .i64 x1) := (h4.2.2.row r1 (by simp)).cell 1
      obtain ⟨k, hk⟩ : ∃ k : Nat, x0 % ((l.length : Int) + 2) = (k : Int) := ⟨(x0 % ((l.length : Int) + 2)).toNat, by have := Int.emod_nonneg x0 (show ((l.length : Int) + 2) ≠ 0 by omega); omega⟩
      have hk2 : k ≤ 302 := by have := Int.emod_lt_of_pos x0 (show (0 : Int) < (l.length : Int) + 2 by omega); omega
      have HK := Lib.hid hk; clear hk
      have a4 := h4.arg sm'
      have HSL := Lib.hid sl'
      by_cases hpar : (x1.tmod 2 == 0) = true
      · go_wp2_with fail
        refine (bring_any _ _ hx0.1 hx0.2 (by omega) (by omega) _).mono ?_; rintro e w' ⟨rfl, rfl⟩; rw [HK.out]
        go_wp2_with fail
        refine (arm_any _ _ _ _ _ h4.1 (by omega)).mono ?_; intro e w7 hq; obtain ⟨rfl, F7, b7, -, -⟩ := h4.step hq; clear hq
        rw [show DS.armed ⟨l, half, false, none, [l.take half, l.drop half]⟩ (k : Int) = (0, ⟨l, half, false, some k, [l.take half, l.drop half]⟩) by simp [DS.armed]] at b7 ⊢
        have a7 := b7.arg sm'
        have hmb : ¬ 1048576 < m.length := by omega
        clear h4 a4 c0 c1
        go_wp2_with fail
        refine (swapD_n _ _ _ _ _ _ m.length m _ rfl b7.1 a7.1 a7.2 (by omega) (by simp)).mono ?_; intro e w8 hq; obtain ⟨rfl, F8, b8, -, -⟩ := b7.step hq; clear hq
        have q8 : DS.swap ⟨l, half, false, some k, [l.take half, l.drop half]⟩ m = (130, ⟨l.take (min (half + k) l.length), min (half + k) l.length, true, some k, [l.take half, l.drop half]⟩) := by
          have e := swaps_die (l.take half) (l.drop half) k (some k) [l.take half, l.drop half]
          rw [List.take_append_drop, HE.out.1] at e
          show (if false = true then _ else if 1048576 < m.length then _ else _) = _
          rw [if_neg (by simp), if_neg hmb]
          show (130, DS.die ⟨l, half, false, some k, [l.take half, l.drop half]⟩ k) = _
          rw [e]
        rw [q8] at b8 ⊢
        clear q8 b7 a7
        go_upto_region 10 with fail
        have s8 := ((b8.arg HSL.out).1).take (min (half + k) l.length)
        obtain ⟨R, hR⟩ : ∃ R, R = l.take (min (half + k) l.length) := ⟨_, rfl⟩
        have hRl : R.length = min (half + k) l.length := by rw [hR, List.length_take]; omega
        rw [← hR] at s8 b8
        have hw8 := (keepBut.refl [] w8).drew
        have HB := Lib.hid (And.intro (b8.over hw8) (And.intro s8 hw8))
        have HL := Lib.hid hRl
        clear b8 s8 sl' sm' hR hRl hw8
        have hwr : IntKind.i64.wrap ((half : Int) + (k : Int)) = (half : Int) + (k : Int) := by rw [IntKind.wrap_i64]; omega
        rcases Nat.lt_or_ge l.length (half + k) with hlt | hge
        · have hlt' : (l.length : Int) < (half : Int) + (k : Int) := by omega
          have HR : Hid (R.length = l.length) := Lib.hid (by rw [HL.out]; omega)
          go_region_law (first | (go_simp; go_at_call 23; refine (readD_any _ _ _ _ HB.out.1.1).mono ?_; rintro e w9 ⟨rfl, hr9, hk9⟩) | (go_simp; go_at_call 24; refine (eqBytes_n _ _ w8.heap.size g _ _ R.length l.length R R _ rfl HR.out (seen_row hr9 (by simp [List.take_of_length_le])) ((HB.out.2.1.keep HB.out.2.2 (by simp)).keep hk9 (by simp))).mono ?_; rintro e w10 ⟨rfl, rfl⟩; rw [show (R == R) = true by simp]) | (go_simp; go_at_call 14; refine (dead_any _ _ _ _ (HB.out.1.over hk9).1).mono ?_; rintro e w10 ⟨rfl, rfl⟩) | (go_simp; go_at_call 12; refine (works_any _).mono ?_; rintro e w10 ⟨rfl, hk10⟩))
          all_goals
            go_wp2
            go_ret
            exact ⟨rfl, (k1.then (HB.out.1.over hk9).2.2 (by simp)).then hk10 (by simp)⟩
        · have hlt' : ¬ (l.length : Int) < (half : Int) + (k : Int) := by omega
          have hsc : (half : Int) + (k : Int) ≤ (c : Int) := by omega
          have hs0 : 0 ≤ (half : Int) + (k : Int) := by omega
          have htn : ((half : Int) + (k : Int)).toNat = half + k := by omega
          have HR : Hid (R.length = half + k) := Lib.hid (by rw [HL.out]; omega)
          go_region_law (first | (go_simp; go_at_call 23; refine (readD_any _ _ _ _ HB.out.1.1).mono ?_; rintro e w9 ⟨rfl, hr9, hk9⟩) | (go_simp; go_at_call 24; refine (eqBytes_n _ _ w8.heap.size g _ _ R.length (half + k) R R _ rfl HR.out (seen_row hr9 (by simp [List.take_of_length_le])) ((HB.out.2.1.keep HB.out.2.2 (by simp)).keep hk9 (by simp))).mono ?_; rintro e w10 ⟨rfl, rfl⟩; rw [show (R == R) = true by simp]) | (go_simp; go_at_call 14; refine (dead_any _ _ _ _ (HB.out.1.over hk9).1).mono ?_; rintro e w10 ⟨rfl, rfl⟩) | (go_simp; go_at_call 12; refine (works_any _).mono ?_; rintro e w10 ⟨rfl, hk10⟩))
          all_goals
            go_wp2
            go_ret
            exact ⟨rfl, (k1.then (HB.out.1.over hk9).2.2 (by simp)).then hk10 (by simp)⟩
      · have hpar' : (x1.tmod 2 == 0) = false := by simpa using hpar
        clear hpar
        have hmb : ¬ 1048576 < m.length := by omega
        go_wp2_with fail
        refine (bring_any _ _ hx0.1 hx0.2 (by omega) (by omega) _).mono ?_; rintro e w' ⟨rfl, rfl⟩; rw [HK.out]
        go_wp2_with fail
        refine (swapD_n _ _ _ _ _ _ m.length m _ rfl h4.1 a4.1 a4.2 (by omega) (by simp)).mono ?_; intro e w7 hq; obtain ⟨rfl, F7, b7, -, -⟩ := h4.step hq; clear hq
        rw [show DS.swap ⟨l, half, false, none, [l.take half, l.drop half]⟩ m = (0, ⟨m, m.length, false, none, [l.take half, l.drop half, m]⟩) by simp [DS.swap, hmb]] at b7 ⊢
        clear h4 a4 c0 c1 sl'
        have sm7 := (b7.arg sm').1
        go_wp2_with fail
        refine (readD_any _ _ _ _ b7.1).mono ?_; rintro e w8 ⟨rfl, hr8, hk8⟩
        have b8 := b7.over hk8
        go_wp2_with fail
        refine (eqBytes_n _ _ w7.heap.size h _ _ m.length m.length m m _ rfl rfl (seen_row hr8 (by simp [List.take_of_length_le])) (sm7.keep hk8 (by simp))).mono ?_; rintro e w9 ⟨rfl, rfl⟩
        rw [show (m == m) = true by simp]
        clear b7 hr8 hk8 sm7
        go_wp2_with fail
        refine (synced_any _ _ _ _ b8.1).mono ?_; rintro e w9 ⟨rfl, rfl⟩
        go_wp2_with fail
        refine (crash_any _ _ _ _ _ b8.1 (by omega)).mono ?_; intro e w10 hq; obtain ⟨rfl, F10, b10, -, -⟩ := b8.step hq; clear hq
        have q10 : DS.crash ⟨m, m.length, false, none, [l.take half, l.drop half, m]⟩ 0 = (0, ⟨m, m.length, true, none, [l.take half, l.drop half, m]⟩) := by
          simp [DS.crash, DS.die]
        rw [q10] at b10 ⊢
        clear q10 b8
        have sm10 := (b10.arg sm').1
        go_wp2_with fail
        refine (readD_any _ _ _ _ b10.1).mono ?_; rintro e w11 ⟨rfl, hr11, hk11⟩
        have b11 := b10.over hk11
        go_wp2_with fail
        refine (eqBytes_n _ _ w10.heap.size h _ _ m.length m.length m m _ rfl rfl (seen_row hr11 (by simp [List.take_of_length_le])) (sm10.keep hk11 (by simp))).mono ?_; rintro e w12 ⟨rfl, rfl⟩
        rw [show (m == m) = true by simp]
        clear b10 hr11 hk11 sm10
        go_wp2_with fail
        refine (works_any _).mono ?_; rintro e w12 ⟨rfl, hk12⟩
        go_wp2_with fail
        go_ret
        exact ⟨rfl, (k1.then b11.2.2 (by simp)).then hk12 (by simp)⟩

theorem diskSwaps_law (A : Option Addr) (g c : Nat) (l0 : List UInt8) (B : Option Addr) (h d : Nat) (m0 : List UInt8) (x0 x1 : Int) (w : World)
    (hl : seen w A g l0) (hlc : l0.length ≤ c) (hcm : c ≤ maxLen) (hm : seen w B h m0) (hmc : m0.length ≤ d) (hdm : d ≤ maxLen)
    (hx0 : (Lit.int .i64 x0).wf = true) (hx1 : (Lit.int .i64 x1).wf = true) :
    Calls Try.prog 6 #[.slice A l0.length c, .slice B m0.length d, .agg #[.int .i64 x0, .int .i64 x1]] w (yesPost w) :=
  diskSwaps_walk A g c l0 B h d m0 x0 x1 w hl hlc hcm hm hmc hdm (bd_i64 hx0) (bd_i64 hx1)
end Go.Proofs.Ytaclpogcedgojaa
