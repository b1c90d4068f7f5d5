/-
  RC, 1: the document's numbers: within, node, what a kind has.
-/
import Derived.Test.YthfdkonhjpdflaaGreatDoorNet11
import Derived.Test.YthfdkonhjpdflaaGreatDoorNetKit
namespace Go.Proofs.YthfdkonhjpdflaaGreatDoor
open Go.RowKit
set_option linter.unusedVariables false
set_option maxRecDepth 100000
set_option linter.unusedSimpArgs false

set_option maxHeartbeats 400000 in
theorem withinR (n lo hi : Int) (w : World) : Calls Tryz.prog 67 #[.int .i64 n, .int .i64 lo, .int .i64 hi] w fun e w' => e = .returned (.bool (inP n lo hi)) ∧ w = w' := by
  go_enter Tryz.func67, Tryz.ntmps67
  by_cases a : lo ≤ n
  · by_cases b : n ≤ hi
    · go_wp2
      go_ret
      exact ⟨by rw [inP_yes ⟨a, b⟩]; rfl, rfl⟩
    · go_wp2
      go_ret
      exact ⟨by rw [inP_no (fun h => by omega)]; rfl, rfl⟩
  · go_wp2
    go_ret
    exact ⟨by rw [inP_no (fun h => by omega)]; rfl, rfl⟩
set_option maxHeartbeats 400000 in
theorem numberR (n : Int) (w : World) : Calls Tryz.prog 69 #[.int .i64 n] w fun e w' => e = .returned (.bool (inP n 0 9007199254740991)) ∧ w = w' := by
  have HC := Lib.hid (withinR n 0 9007199254740991 w)
  go_enter Tryz.func69, Tryz.ntmps69
  go_wp2_with (go_at_call 67; refine HC.out.mono ?_; rintro e w' ⟨rfl, rfl⟩)
  go_ret
  exact ⟨rfl, rfl⟩
set_option maxHeartbeats 400000 in
theorem replicaR (n : Int) (w : World) : Calls Tryz.prog 134 #[.int .i64 n] w fun e w' => e = .returned (.bool (inP n 10 13)) ∧ w = w' := by
  have HC := Lib.hid (withinR n 10 13 w)
  go_enter Tryz.func134, Tryz.ntmps134
  go_wp2_with (go_at_call 67; refine HC.out.mono ?_; rintro e w' ⟨rfl, rfl⟩)
  go_ret
  exact ⟨rfl, rfl⟩
set_option maxHeartbeats 400000 in
theorem argR (b : Bool) (w : World) : Calls Tryz.prog 71 #[.bool b] w fun e w' => e = .returned (.int .i64 (toldP b)) ∧ w = w' := by
  cases b with
  | true =>
    go_enter Tryz.func71, Tryz.ntmps71
    go_wp2
    go_ret
    exact ⟨rfl, rfl⟩
  | false =>
    go_enter Tryz.func71, Tryz.ntmps71
    go_wp2
    go_ret
    exact ⟨rfl, rfl⟩
def leastP (k : Int) : Int := if k = 5 then -1 else 0
set_option maxHeartbeats 400000 in
theorem leastR (k : Int) (w : World) : Calls Tryz.prog 70 #[.int .i64 k] w fun e w' => e = .returned (.int .i64 (leastP k)) ∧ w = w' := by
  by_cases h : k = 5
  · subst h
    go_enter Tryz.func70, Tryz.ntmps70
    go_wp2
    go_ret
    exact ⟨rfl, rfl⟩
  · have hb : (k == 5) = false := by simp [h]
    have HS := Lib.hid (show leastP k = 0 by unfold leastP; rw [if_neg h])
    go_enter Tryz.func70, Tryz.ntmps70
    go_wp2
    go_ret
    exact ⟨by rw [HS.out]; rfl, rfl⟩
set_option maxHeartbeats 1000000 in
theorem nodeR (n : Int) (w : World) : Calls Tryz.prog 68 #[.int .i64 n] w fun e w' => e = .returned (.bool (nodeP n)) ∧ w = w' := by
  have H1 := Lib.hid (withinR n 0 2 w)
  have H2 := Lib.hid (replicaR n w)
  have H3 := Lib.hid (withinR n 20 22 w)
  have HS := Lib.hid (show nodeP n = (inP n 0 2 || (inP n 10 13 || inP n 20 22)) from rfl)
  generalize nodeP n = N at *
  generalize inP n 0 2 = a at *
  generalize inP n 10 13 = b at *
  generalize inP n 20 22 = c at *
  cases a <;> cases b
  all_goals
    go_enter Tryz.func68, Tryz.ntmps68
    go_wp2_with (first
      | (go_at_call 67; with_reducible refine H1.out.mono ?_; rintro e w' ⟨rfl, rfl⟩)
      | (go_at_call 134; refine H2.out.mono ?_; rintro e w' ⟨rfl, rfl⟩)
      | (go_at_call 67; with_reducible refine H3.out.mono ?_; rintro e w' ⟨rfl, rfl⟩))
    go_ret
    exact ⟨by rw [HS.out]; rfl, rfl⟩
set_option maxHeartbeats 4000000 in
theorem inR (F : List Nat) (k : Int) (v : Value) (l : List Int) (w : World) (hl : held w F v l) :
    Calls Tryz.prog 124 #[.int .i64 k, v] w fun e w' => e = .returned (.bool (l.contains k)) ∧ keepBut [] w w' := by
  obtain ⟨A, c, g, rfl, h2, h3, h4, h5, h6⟩ := id hl
  clear h5 h6
  have HL := Lib.hid hl
  clear hl
  unfold maxLen at h3
  go_enter Tryz.func124, Tryz.ntmps124
  go_upto_region 3 with fail
  go_loopw [5] (fun v5 wx => ∃ i : Nat, i ≤ l.length ∧ v5 = .int .i64 (i : Int) ∧ (l.take i).contains k = false ∧ keepBut [] w wx) (fun v5 _ => l.length - (intOf v5).toNat)
  case atStart => exact ⟨0, by omega, rfl, by simp, keepBut.refl _ _⟩
  case round =>
    obtain ⟨i, hi, rfl, ht, kk⟩ := hrel
    by_cases hlt : i < l.length
    · obtain ⟨-, -, ga, oa, x, rfl, hx, cx⟩ := (HL.out.keep kk (by simp)).cell i hlt
      have h1 : (i : Int) < (l.length : Int) := by omega
      have HT := Lib.hid (And.intro ht (And.intro kk hx))
      clear ht kk hx
      by_cases hxy : x = k
      · have t3 : (x == k) = true := by simpa using hxy
        have HXY := Lib.hid (show l.contains k = true by
          rw [List.contains_iff_mem]
          have e := HT.out.2.2
          rw [hxy] at e
          exact List.mem_of_getElem? e)
        clear hxy
        go_wp2
        go_ret
        rw [HXY.out]
        exact ⟨rfl, HT.out.2.1⟩
      · have t3 : (x == k) = false := by simpa using hxy
        have HXY := Lib.hid (show (l.take (i + 1)).contains k = false by
          rw [List.take_add_one, HT.out.2.2]
          have := HT.out.1
          simp at this ⊢
          exact ⟨this, fun e => hxy e.symm⟩)
        clear hxy
        go_wp2
        go_roundw
        case rel => exact ⟨i + 1, by omega, by go_num, HXY.out, HT.out.2.1⟩
        case measure => simp [intOf]; omega
    · obtain rfl : i = l.length := by omega
      rw [List.take_length] at ht
      have HE := Lib.hid (And.intro ht kk)
      clear ht kk
      go_wp2
      go_ret
      rw [HE.out.1]
      exact ⟨rfl, HE.out.2⟩
def numK : List Int := [3, 4, 5, 6, 8]
def seqK : List Int := [3, 4, 5, 6, 10, 11, 12, 13]
def ballotK : List Int := [10, 11, 12, 13, 14]
def reqK : List Int := [1, 3]
def confK2 : List Int := [7, 12]
set_option maxHeartbeats 1000000 in
theorem hasNumR (k : Int) (w : World) : Calls Tryz.prog 53 #[.int .i64 k] w fun e w' => e = .returned (.bool (numK.contains k)) ∧ keepBut [] w w' := by
  have HK := Lib.hid ((keepBut.refl [] w).alloc (.cells #[.int .i64 3, .int .i64 4, .int .i64 5, .int .i64 6, .int .i64 8] 3))
  have HC : Hid (Calls Tryz.prog 124 #[.int .i64 k, .slice (some ⟨w.heap.size, 0, none⟩) 5 5] (w.alloc (.cells #[.int .i64 3, .int .i64 4, .int .i64 5, .int .i64 6, .int .i64 8] 3)) fun e w' => e = .returned (.bool (numK.contains k)) ∧ keepBut [] (w.alloc (.cells #[.int .i64 3, .int .i64 4, .int .i64 5, .int .i64 6, .int .i64 8] 3)) w') := Lib.hid (inR [w.heap.size] k (.slice (some ⟨w.heap.size, 0, none⟩) 5 5) numK _ (row_held w numK (by simp [numK])))
  go_enter Tryz.func53, Tryz.ntmps53
  go_wp2_with (go_at_call 124; refine HC.out.mono ?_; rintro e w' ⟨rfl, k2⟩; replace k2 := HK.out.then k2 (by simp); have HJ := Lib.hid k2; clear k2)
  go_ret
  rw [show numK.contains k = decide (k ∈ numK) from by simp]
  exact ⟨rfl, HJ.out⟩
set_option maxHeartbeats 1000000 in
theorem hasSeqR (k : Int) (w : World) : Calls Tryz.prog 55 #[.int .i64 k] w fun e w' => e = .returned (.bool (seqK.contains k)) ∧ keepBut [] w w' := by
  have HK := Lib.hid ((keepBut.refl [] w).alloc (.cells #[.int .i64 3, .int .i64 4, .int .i64 5, .int .i64 6, .int .i64 10, .int .i64 11, .int .i64 12, .int .i64 13] 3))
  have HC : Hid (Calls Tryz.prog 124 #[.int .i64 k, .slice (some ⟨w.heap.size, 0, none⟩) 8 8] (w.alloc (.cells #[.int .i64 3, .int .i64 4, .int .i64 5, .int .i64 6, .int .i64 10, .int .i64 11, .int .i64 12, .int .i64 13] 3)) fun e w' => e = .returned (.bool (seqK.contains k)) ∧ keepBut [] (w.alloc (.cells #[.int .i64 3, .int .i64 4, .int .i64 5, .int .i64 6, .int .i64 10, .int .i64 11, .int .i64 12, .int .i64 13] 3)) w') := Lib.hid (inR [w.heap.size] k (.slice (some ⟨w.heap.size, 0, none⟩) 8 8) seqK _ (row_held w seqK (by simp [seqK])))
  go_enter Tryz.func55, Tryz.ntmps55
  go_wp2_with (go_at_call 124; refine HC.out.mono ?_; rintro e w' ⟨rfl, k2⟩; replace k2 := HK.out.then k2 (by simp); have HJ := Lib.hid k2; clear k2)
  go_ret
  rw [show seqK.contains k = decide (k ∈ seqK) from by simp]
  exact ⟨rfl, HJ.out⟩
set_option maxHeartbeats 1000000 in
theorem hasBallotR (k : Int) (w : World) : Calls Tryz.prog 56 #[.int .i64 k] w fun e w' => e = .returned (.bool (ballotK.contains k)) ∧ keepBut [] w w' := by
  have HK := Lib.hid ((keepBut.refl [] w).alloc (.cells #[.int .i64 10, .int .i64 11, .int .i64 12, .int .i64 13, .int .i64 14] 3))
  have HC : Hid (Calls Tryz.prog 124 #[.int .i64 k, .slice (some ⟨w.heap.size, 0, none⟩) 5 5] (w.alloc (.cells #[.int .i64 10, .int .i64 11, .int .i64 12, .int .i64 13, .int .i64 14] 3)) fun e w' => e = .returned (.bool (ballotK.contains k)) ∧ keepBut [] (w.alloc (.cells #[.int .i64 10, .int .i64 11, .int .i64 12, .int .i64 13, .int .i64 14] 3)) w') := Lib.hid (inR [w.heap.size] k (.slice (some ⟨w.heap.size, 0, none⟩) 5 5) ballotK _ (row_held w ballotK (by simp [ballotK])))
  go_enter Tryz.func56, Tryz.ntmps56
  go_wp2_with (go_at_call 124; refine HC.out.mono ?_; rintro e w' ⟨rfl, k2⟩; replace k2 := HK.out.then k2 (by simp); have HJ := Lib.hid k2; clear k2)
  go_ret
  rw [show ballotK.contains k = decide (k ∈ ballotK) from by simp]
  exact ⟨rfl, HJ.out⟩
set_option maxHeartbeats 1000000 in
theorem hasReqR (k : Int) (w : World) : Calls Tryz.prog 57 #[.int .i64 k] w fun e w' => e = .returned (.bool (reqK.contains k)) ∧ keepBut [] w w' := by
  have HK := Lib.hid ((keepBut.refl [] w).alloc (.cells #[.int .i64 1, .int .i64 3] 3))
  have HC : Hid (Calls Tryz.prog 124 #[.int .i64 k, .slice (some ⟨w.heap.size, 0, none⟩) 2 2] (w.alloc (.cells #[.int .i64 1, .int .i64 3] 3)) fun e w' => e = .returned (.bool (reqK.contains k)) ∧ keepBut [] (w.alloc (.cells #[.int .i64 1, .int .i64 3] 3)) w') := Lib.hid (inR [w.heap.size] k (.slice (some ⟨w.heap.size, 0, none⟩) 2 2) reqK _ (row_held w reqK (by simp [reqK])))
  go_enter Tryz.func57, Tryz.ntmps57
  go_wp2_with (go_at_call 124; refine HC.out.mono ?_; rintro e w' ⟨rfl, k2⟩; replace k2 := HK.out.then k2 (by simp); have HJ := Lib.hid k2; clear k2)
  go_ret
  rw [show reqK.contains k = decide (k ∈ reqK) from by simp]
  exact ⟨rfl, HJ.out⟩
set_option maxHeartbeats 1000000 in
theorem hasConfR (k : Int) (w : World) : Calls Tryz.prog 59 #[.int .i64 k] w fun e w' => e = .returned (.bool (confK2.contains k)) ∧ keepBut [] w w' := by
  have HK := Lib.hid ((keepBut.refl [] w).alloc (.cells #[.int .i64 7, .int .i64 12] 3))
  have HC : Hid (Calls Tryz.prog 124 #[.int .i64 k, .slice (some ⟨w.heap.size, 0, none⟩) 2 2] (w.alloc (.cells #[.int .i64 7, .int .i64 12] 3)) fun e w' => e = .returned (.bool (confK2.contains k)) ∧ keepBut [] (w.alloc (.cells #[.int .i64 7, .int .i64 12] 3)) w') := Lib.hid (inR [w.heap.size] k (.slice (some ⟨w.heap.size, 0, none⟩) 2 2) confK2 _ (row_held w confK2 (by simp [confK2])))
  go_enter Tryz.func59, Tryz.ntmps59
  go_wp2_with (go_at_call 124; refine HC.out.mono ?_; rintro e w' ⟨rfl, k2⟩; replace k2 := HK.out.then k2 (by simp); have HJ := Lib.hid k2; clear k2)
  go_ret
  rw [show confK2.contains k = decide (k ∈ confK2) from by simp]
  exact ⟨rfl, HJ.out⟩
end Go.Proofs.YthfdkonhjpdflaaGreatDoor
