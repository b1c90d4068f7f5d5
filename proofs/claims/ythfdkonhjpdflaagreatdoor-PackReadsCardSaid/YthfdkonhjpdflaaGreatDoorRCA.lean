/-
  RCA: RC1, RC2, RC3, joined.
-/
import Derived.Test.YthfdkonhjpdflaaGreatDoorNK
import Derived.Test.YthfdkonhjpdflaaGreatDoorLow3
section
namespace Go.Proofs.YthfdkonhjpdflaaGreatDoor
open Go.RowKit
set_option linter.unusedVariables false
set_option maxRecDepth 100000
set_option linter.unusedSimpArgs false

set_option maxHeartbeats 400000 in
theorem withinR (n lo hi : Int) (w : World) : Calls Tryz.prog 67 #[.int .i64 n, .int .i64 lo, .int .i64 hi] w fun e w' => e = .returned (.bool (inP n lo hi)) ∧ w = w' := by
  go_enter Tryz.func67, Tryz.ntmps67
  by_cases a : lo ≤ n
  · by_cases b : n ≤ hi
    · go_wp2
      go_ret
      exact ⟨by rw [inP_yes ⟨a, b⟩]; rfl, rfl⟩
    · go_wp2
      go_ret
      exact ⟨by rw [inP_no (fun h => by omega)]; rfl, rfl⟩
  · go_wp2
    go_ret
    exact ⟨by rw [inP_no (fun h => by omega)]; rfl, rfl⟩
set_option maxHeartbeats 400000 in
theorem numberR (n : Int) (w : World) : Calls Tryz.prog 69 #[.int .i64 n] w fun e w' => e = .returned (.bool (inP n 0 9007199254740991)) ∧ w = w' := by
  have HC := Lib.hid (withinR n 0 9007199254740991 w)
  go_enter Tryz.func69, Tryz.ntmps69
  go_wp2_with (go_at_call 67; refine HC.out.mono ?_; rintro e w' ⟨rfl, rfl⟩)
  go_ret
  exact ⟨rfl, rfl⟩
set_option maxHeartbeats 400000 in
theorem replicaR (n : Int) (w : World) : Calls Tryz.prog 134 #[.int .i64 n] w fun e w' => e = .returned (.bool (inP n 10 13)) ∧ w = w' := by
  have HC := Lib.hid (withinR n 10 13 w)
  go_enter Tryz.func134, Tryz.ntmps134
  go_wp2_with (go_at_call 67; refine HC.out.mono ?_; rintro e w' ⟨rfl, rfl⟩)
  go_ret
  exact ⟨rfl, rfl⟩
set_option maxHeartbeats 400000 in
theorem argR (b : Bool) (w : World) : Calls Tryz.prog 71 #[.bool b] w fun e w' => e = .returned (.int .i64 (toldP b)) ∧ w = w' := by
  cases b with
  | true =>
    go_enter Tryz.func71, Tryz.ntmps71
    go_wp2
    go_ret
    exact ⟨rfl, rfl⟩
  | false =>
    go_enter Tryz.func71, Tryz.ntmps71
    go_wp2
    go_ret
    exact ⟨rfl, rfl⟩
def leastP (k : Int) : Int := if k = 5 then -1 else 0
set_option maxHeartbeats 400000 in
theorem leastR (k : Int) (w : World) : Calls Tryz.prog 70 #[.int .i64 k] w fun e w' => e = .returned (.int .i64 (leastP k)) ∧ w = w' := by
  by_cases h : k = 5
  · subst h
    go_enter Tryz.func70, Tryz.ntmps70
    go_wp2
    go_ret
    exact ⟨rfl, rfl⟩
  · have hb : (k == 5) = false := by simp [h]
    have HS := Lib.hid (show leastP k = 0 by unfold leastP; rw [if_neg h])
    go_enter Tryz.func70, Tryz.ntmps70
    go_wp2
    go_ret
    exact ⟨by rw [HS.out]; rfl, rfl⟩
set_option maxHeartbeats 1000000 in
theorem nodeR (n : Int) (w : World) : Calls Tryz.prog 68 #[.int .i64 n] w fun e w' => e = .returned (.bool (nodeP n)) ∧ w = w' := by
  have H1 := Lib.hid (withinR n 0 2 w)
  have H2 := Lib.hid (replicaR n w)
  have H3 := Lib.hid (withinR n 20 22 w)
  have HS := Lib.hid (show nodeP n = (inP n 0 2 || (inP n 10 13 || inP n 20 22)) from rfl)
  generalize nodeP n = N at *
  generalize inP n 0 2 = a at *
  generalize inP n 10 13 = b at *
  generalize inP n 20 22 = c at *
  cases a <;> cases b
  all_goals
    go_enter Tryz.func68, Tryz.ntmps68
    go_wp2_with (first
      | (go_at_call 67; with_reducible refine H1.out.mono ?_; rintro e w' ⟨rfl, rfl⟩)
      | (go_at_call 134; refine H2.out.mono ?_; rintro e w' ⟨rfl, rfl⟩)
      | (go_at_call 67; with_reducible refine H3.out.mono ?_; rintro e w' ⟨rfl, rfl⟩))
    go_ret
    exact ⟨by rw [HS.out]; rfl, rfl⟩
set_option maxHeartbeats 4000000 in
theorem inR (F : List Nat) (k : Int) (v : Value) (l : List Int) (w : World) (hl : held w F v l) :
    Calls Tryz.prog 124 #[.int .i64 k, v] w fun e w' => e = .returned (.bool (l.contains k)) ∧ keepBut [] w w' := by
  obtain ⟨A, c, g, rfl, h2, h3, h4, h5, h6⟩ := id hl
  clear h5 h6
  have HL := Lib.hid hl
  clear hl
  unfold maxLen at h3
  go_enter Tryz.func124, Tryz.ntmps124
  go_upto_region 3 with fail
  go_loopw [5] (fun v5 wx => ∃ i : Nat, i ≤ l.length ∧ v5 = .int .i64 (i : Int) ∧ (l.take i).contains k = false ∧ keepBut [] w wx) (fun v5 _ => l.length - (intOf v5).toNat)
  case atStart => exact ⟨0, by omega, rfl, by simp, keepBut.refl _ _⟩
  case round =>
    obtain ⟨i, hi, rfl, ht, kk⟩ := hrel
    by_cases hlt : i < l.length
    · obtain ⟨-, -, ga, oa, x, rfl, hx, cx⟩ := (HL.out.keep kk (by simp)).cell i hlt
      have h1 : (i : Int) < (l.length : Int) := by omega
      have HT := Lib.hid (And.intro ht (And.intro kk hx))
      clear ht kk hx
      by_cases hxy : x = k
      · have t3 : (x == k) = true := by simpa using hxy
        have HXY := Lib.hid (show l.contains k = true by
          rw [List.contains_iff_mem]
          have e := HT.out.2.2
          rw [hxy] at e
          exact List.mem_of_getElem? e)
        clear hxy
        go_wp2
        go_ret
        rw [HXY.out]
        exact ⟨rfl, HT.out.2.1⟩
      · have t3 : (x == k) = false := by simpa using hxy
        have HXY := Lib.hid (show (l.take (i + 1)).contains k = false by
          rw [List.take_add_one, HT.out.2.2]
          have := HT.out.1
          simp at this ⊢
          exact ⟨this, fun e => hxy e.symm⟩)
        clear hxy
        go_wp2
        go_roundw
        case rel => exact ⟨i + 1, by omega, by go_num, HXY.out, HT.out.2.1⟩
        case measure => simp [intOf]; omega
    · obtain rfl : i = l.length := by omega
      rw [List.take_length] at ht
      have HE := Lib.hid (And.intro ht kk)
      clear ht kk
      go_wp2
      go_ret
      rw [HE.out.1]
      exact ⟨rfl, HE.out.2⟩
def numK : List Int := [3, 4, 5, 6, 8]
def seqK : List Int := [3, 4, 5, 6, 10, 11, 12, 13]
def ballotK : List Int := [10, 11, 12, 13, 14]
def reqK : List Int := [1, 3]
def confK2 : List Int := [7, 12]
set_option maxHeartbeats 1000000 in
theorem hasNumR (k : Int) (w : World) : Calls Tryz.prog 53 #[.int .i64 k] w fun e w' => e = .returned (.bool (numK.contains k)) ∧ keepBut [] w w' := by
  have HK := Lib.hid ((keepBut.refl [] w).alloc (.cells #[.int .i64 3, .int .i64 4, .int .i64 5, .int .i64 6, .int .i64 8] 3))
  have HC : Hid (Calls Tryz.prog 124 #[.int .i64 k, .slice (some ⟨w.heap.size, 0, none⟩) 5 5] (w.alloc (.cells #[.int .i64 3, .int .i64 4, .int .i64 5, .int .i64 6, .int .i64 8] 3)) fun e w' => e = .returned (.bool (numK.contains k)) ∧ keepBut [] (w.alloc (.cells #[.int .i64 3, .int .i64 4, .int .i64 5, .int .i64 6, .int .i64 8] 3)) w') := Lib.hid (inR [w.heap.size] k (.slice (some ⟨w.heap.size, 0, none⟩) 5 5) numK _ (row_held w numK (by simp [numK])))
  go_enter Tryz.func53, Tryz.ntmps53
  go_wp2_with (go_at_call 124; refine HC.out.mono ?_; rintro e w' ⟨rfl, k2⟩; replace k2 := HK.out.then k2 (by simp); have HJ := Lib.hid k2; clear k2)
  go_ret
  rw [show numK.contains k = decide (k ∈ numK) from by simp]
  exact ⟨rfl, HJ.out⟩
set_option maxHeartbeats 1000000 in
theorem hasSeqR (k : Int) (w : World) : Calls Tryz.prog 55 #[.int .i64 k] w fun e w' => e = .returned (.bool (seqK.contains k)) ∧ keepBut [] w w' := by
  have HK := Lib.hid ((keepBut.refl [] w).alloc (.cells #[.int .i64 3, .int .i64 4, .int .i64 5, .int .i64 6, .int .i64 10, .int .i64 11, .int .i64 12, .int .i64 13] 3))
  have HC : Hid (Calls Tryz.prog 124 #[.int .i64 k, .slice (some ⟨w.heap.size, 0, none⟩) 8 8] (w.alloc (.cells #[.int .i64 3, .int .i64 4, .int .i64 5, .int .i64 6, .int .i64 10, .int .i64 11, .int .i64 12, .int .i64 13] 3)) fun e w' => e = .returned (.bool (seqK.contains k)) ∧ keepBut [] (w.alloc (.cells #[.int .i64 3, .int .i64 4, .int .i64 5, .int .i64 6, .int .i64 10, .int .i64 11, .int .i64 12, .int .i64 13] 3)) w') := Lib.hid (inR [w.heap.size] k (.slice (some ⟨w.heap.size, 0, none⟩) 8 8) seqK _ (row_held w seqK (by simp [seqK])))
  go_enter Tryz.func55, Tryz.ntmps55
  go_wp2_with (go_at_call 124; refine HC.out.mono ?_; rintro e w' ⟨rfl, k2⟩; replace k2 := HK.out.then k2 (by simp); have HJ := Lib.hid k2; clear k2)
  go_ret
  rw [show seqK.contains k = decide (k ∈ seqK) from by simp]
  exact ⟨rfl, HJ.out⟩
set_option maxHeartbeats 1000000 in
theorem hasBallotR (k : Int) (w : World) : Calls Tryz.prog 56 #[.int .i64 k] w fun e w' => e = .returned (.bool (ballotK.contains k)) ∧ keepBut [] w w' := by
  have HK := Lib.hid ((keepBut.refl [] w).alloc (.cells #[.int .i64 10, .int .i64 11, .int .i64 12, .int .i64 13, .int .i64 14] 3))
  have HC : Hid (Calls Tryz.prog 124 #[.int .i64 k, .slice (some ⟨w.heap.size, 0, none⟩) 5 5] (w.alloc (.cells #[.int .i64 10, .int .i64 11, .int .i64 12, .int .i64 13, .int .i64 14] 3)) fun e w' => e = .returned (.bool (ballotK.contains k)) ∧ keepBut [] (w.alloc (.cells #[.int .i64 10, .int .i64 11, .int .i64 12, .int .i64 13, .int .i64 14] 3)) w') := Lib.hid (inR [w.heap.size] k (.slice (some ⟨w.heap.size, 0, none⟩) 5 5) ballotK _ (row_held w ballotK (by simp [ballotK])))
  go_enter Tryz.func56, Tryz.ntmps56
  go_wp2_with (go_at_call 124; refine HC.out.mono ?_; rintro e w' ⟨rfl, k2⟩; replace k2 := HK.out.then k2 (by simp); have HJ := Lib.hid k2; clear k2)
  go_ret
  rw [show ballotK.contains k = decide (k ∈ ballotK) from by simp]
  exact ⟨rfl, HJ.out⟩
set_option maxHeartbeats 1000000 in
theorem hasReqR (k : Int) (w : World) : Calls Tryz.prog 57 #[.int .i64 k] w fun e w' => e = .returned (.bool (reqK.contains k)) ∧ keepBut [] w w' := by
  have HK := Lib.hid ((keepBut.refl [] w).alloc (.cells #[.int .i64 1, .int .i64 3] 3))
  have HC : Hid (Calls Tryz.prog 124 #[.int .i64 k, .slice (some ⟨w.heap.size, 0, none⟩) 2 2] (w.alloc (.cells #[.int .i64 1, .int .i64 3] 3)) fun e w' => e = .returned (.bool (reqK.contains k)) ∧ keepBut [] (w.alloc (.cells #[.int .i64 1, .int .i64 3] 3)) w') := Lib.hid (inR [w.heap.size] k (.slice (some ⟨w.heap.size, 0, none⟩) 2 2) reqK _ (row_held w reqK (by simp [reqK])))
  go_enter Tryz.func57, Tryz.ntmps57
  go_wp2_with (go_at_call 124; refine HC.out.mono ?_; rintro e w' ⟨rfl, k2⟩; replace k2 := HK.out.then k2 (by simp); have HJ := Lib.hid k2; clear k2)
  go_ret
  rw [show reqK.contains k = decide (k ∈ reqK) from by simp]
  exact ⟨rfl, HJ.out⟩
set_option maxHeartbeats 1000000 in
theorem hasConfR (k : Int) (w : World) : Calls Tryz.prog 59 #[.int .i64 k] w fun e w' => e = .returned (.bool (confK2.contains k)) ∧ keepBut [] w w' := by
  have HK := Lib.hid ((keepBut.refl [] w).alloc (.cells #[.int .i64 7, .int .i64 12] 3))
  have HC : Hid (Calls Tryz.prog 124 #[.int .i64 k, .slice (some ⟨w.heap.size, 0, none⟩) 2 2] (w.alloc (.cells #[.int .i64 7, .int .i64 12] 3)) fun e w' => e = .returned (.bool (confK2.contains k)) ∧ keepBut [] (w.alloc (.cells #[.int .i64 7, .int .i64 12] 3)) w') := Lib.hid (inR [w.heap.size] k (.slice (some ⟨w.heap.size, 0, none⟩) 2 2) confK2 _ (row_held w confK2 (by simp [confK2])))
  go_enter Tryz.func59, Tryz.ntmps59
  go_wp2_with (go_at_call 124; refine HC.out.mono ?_; rintro e w' ⟨rfl, k2⟩; replace k2 := HK.out.then k2 (by simp); have HJ := Lib.hid k2; clear k2)
  go_ret
  rw [show confK2.contains k = decide (k ∈ confK2) from by simp]
  exact ⟨rfl, HJ.out⟩
end Go.Proofs.YthfdkonhjpdflaaGreatDoor
end

section
namespace Go.Proofs.YthfdkonhjpdflaaGreatDoor
open Go.RowKit
set_option linter.unusedVariables false
set_option maxRecDepth 100000
set_option linter.unusedSimpArgs false
set_option maxHeartbeats 4000000 in
theorem sameReqD (F G : List Nat) (r s : RQ) (ev ew : Value) (w : World) (hr : rqV w F r ev) (hs : rqV w G s ew) :
    Calls Tryz.prog 36 #[.agg (rqL r ev).toArray, .agg (rqL s ew).toArray] w fun e w' => e = .returned (.bool (r.same s)) ∧ keepBut [] w w' := by
  obtain ⟨r1, r2, kk⟩ := rowAt.two w 26 (rqL r ev).toArray (rqL s ew).toArray
  obtain ⟨hn, A, c, g, rfl, _, _, sA, _⟩ := hr
  obtain ⟨hm, B, d, h, rfl, _, _, sB, _⟩ := hs
  have H12 := Lib.hid kk
  have sA2 := sA.keep kk (by simp)
  have sB2 := sB.keep kk (by simp)
  have xe := (r1.cell 36).trans (rqL_env hn)
  have ye := (r2.cell 36).trans (rqL_env hm)
  have xr := r1.range (rqL_name r (.slice A r.env.length c))
  have yr := r2.range (rqL_name s (.slice B s.env.length d))
  have x0 := r1.cell 0
  have y0 := r2.cell 0
  have x1 := r1.cell 1
  have y1 := r2.cell 1
  have x2 := r1.cell 2
  have y2 := r2.cell 2
  have x3 := r1.cell 3
  have y3 := r2.cell 3
  rw [show (rqL r (.slice A r.env.length c)).toArray[0]? = some (.int .i64 r.client) from rfl] at x0
  rw [show (rqL s (.slice B s.env.length d)).toArray[0]? = some (.int .i64 s.client) from rfl] at y0
  rw [show (rqL r (.slice A r.env.length c)).toArray[1]? = some (.int .i64 r.num) from rfl] at x1
  rw [show (rqL s (.slice B s.env.length d)).toArray[1]? = some (.int .i64 s.num) from rfl] at y1
  rw [show (rqL r (.slice A r.env.length c)).toArray[2]? = some (.int .i64 r.kind) from rfl] at x2
  rw [show (rqL s (.slice B s.env.length d)).toArray[2]? = some (.int .i64 s.kind) from rfl] at y2
  rw [show (rqL r (.slice A r.env.length c)).toArray[3]? = some (.int .i64 r.version) from rfl] at x3
  rw [show (rqL s (.slice B s.env.length d)).toArray[3]? = some (.int .i64 s.version) from rfl] at y3
  obtain ⟨a0, a1, a2, a3, nr, er⟩ := r
  obtain ⟨b0, b1, b2, b3, ns, es⟩ := s
  dsimp only at hn hm xr yr sA2 sB2 x0 y0 x1 y1 x2 y2 x3 y3 xe ye
  obtain ⟨w2, hw2⟩ : ∃ w2, (w.alloc (.cells (rqL ⟨a0, a1, a2, a3, nr, er⟩ (.slice A er.length c)).toArray 26)).alloc (.cells (rqL ⟨b0, b1, b2, b3, ns, es⟩ (.slice B es.length d)).toArray 26) = w2 := ⟨_, rfl⟩
  have HW := Lib.hid hw2
  have HN := Lib.hid (And.intro hn hm)
  have HK := H12.out
  dsimp only at HK
  rw [hw2] at HK sA2 sB2 xe ye xr yr x0 y0 x1 y1 x2 y2 x3 y3
  have HKK := Lib.hid HK
  have HX := Lib.hid (And.intro xr yr)
  have HE := Lib.hid (eqBytes_any A B g h c d er es w2 sA2 sB2)
  have HQ := Lib.hid (name_eql nr ns hn hm w2)
  have HI := Lib.hid (show (Tryz.prog.info? 23).map (·.size) = some (nameL nr).length by rw [nameL_len, hn]; exact infoName)
  have HJ := Lib.hid (show (Tryz.prog.info? 23).map (·.size) = some (nameL ns).length by rw [nameL_len, hm]; exact infoName)
  clear H12 HK sA2 sB2 sA sB hn hm xr yr hw2 kk r1 r2
  by_cases h0 : a0 = b0
  · subst h0
    by_cases h1 : a1 = b1
    · subst h1
      by_cases h2 : a2 = b2
      · subst h2
        by_cases h3 : a3 = b3
        · subst h3
          by_cases hnm : nr = ns
          · subst hnm
            have HS := Lib.hid (show RQ.same ⟨a0, a1, a2, a3, nr, er⟩ ⟨a0, a1, a2, a3, nr, es⟩ = (er == es) by unfold RQ.same; simp)
            have hdn : decide (nr = nr) = true := by simp
            rw [hdn] at HQ
            go_enter Tryz.func36, Tryz.ntmps36
            go_upto_region 1 with (first | (with_reducible refine wpList_box_agg _ rfl 26 (.tmp 0) rfl _ rfl ?_) | (with_reducible refine wpList_box_agg _ rfl 26 (.tmp 1) rfl _ rfl ?_))
            rw [HW.out]
            go_wp2_with (first | (refine wpList_load_mid_g 23 (.tmp 32) rfl w.heap.size 4 rfl (nameL nr) _ HX.out.1 Tryz.underlying23 rfl HI.out ?_ ?_; · rfl) | (refine wpList_load_mid_g 23 (.tmp 34) rfl (w.heap.size + 1) 4 rfl (nameL nr) _ HX.out.2 Tryz.underlying23 rfl HJ.out ?_ ?_; · rfl) | (refine wpList_bin_agg_g _ .eql 23 23 (.tmp 33) (.tmp 35) rfl guardName (nameL nr).toArray (nameL nr).toArray rfl rfl _ HQ.out ?_ ?_; · rfl) | (go_at_call 11; refine HE.out.mono ?_; rintro e w' ⟨rfl, rfl⟩))
            go_ret
            exact ⟨by rw [HS.out]; rfl, HKK.out⟩
          · have HS := Lib.hid (show RQ.same ⟨a0, a1, a2, a3, nr, er⟩ ⟨a0, a1, a2, a3, ns, es⟩ = false by unfold RQ.same; simp [hnm])
            have hdn : decide (nr = ns) = false := by simp [hnm]
            rw [hdn] at HQ
            clear hnm
            go_enter Tryz.func36, Tryz.ntmps36
            go_upto_region 1 with (first | (with_reducible refine wpList_box_agg _ rfl 26 (.tmp 0) rfl _ rfl ?_) | (with_reducible refine wpList_box_agg _ rfl 26 (.tmp 1) rfl _ rfl ?_))
            rw [HW.out]
            go_wp2_with (first | (refine wpList_load_mid_g 23 (.tmp 32) rfl w.heap.size 4 rfl (nameL nr) _ HX.out.1 Tryz.underlying23 rfl HI.out ?_ ?_; · rfl) | (refine wpList_load_mid_g 23 (.tmp 34) rfl (w.heap.size + 1) 4 rfl (nameL ns) _ HX.out.2 Tryz.underlying23 rfl HJ.out ?_ ?_; · rfl) | (refine wpList_bin_agg_g _ .eql 23 23 (.tmp 33) (.tmp 35) rfl guardName (nameL nr).toArray (nameL ns).toArray rfl rfl _ HQ.out ?_ ?_; · rfl))
            go_ret
            exact ⟨by rw [HS.out]; rfl, HKK.out⟩
        · have HS := Lib.hid (show RQ.same ⟨a0, a1, a2, a3, nr, er⟩ ⟨a0, a1, a2, b3, ns, es⟩ = false by unfold RQ.same; simp [h3])
          have t3 : (a3 == b3) = false := by simpa using h3
          clear h3
          go_enter Tryz.func36, Tryz.ntmps36
          go_upto_region 1 with (first | (with_reducible refine wpList_box_agg _ rfl 26 (.tmp 0) rfl _ rfl ?_) | (with_reducible refine wpList_box_agg _ rfl 26 (.tmp 1) rfl _ rfl ?_))
          rw [HW.out]
          go_wp2_with fail
          go_ret
          exact ⟨by rw [HS.out]; rfl, HKK.out⟩
      · have HS := Lib.hid (show RQ.same ⟨a0, a1, a2, a3, nr, er⟩ ⟨a0, a1, b2, b3, ns, es⟩ = false by unfold RQ.same; simp [h2])
        have t2 : (a2 == b2) = false := by simpa using h2
        clear h2
        go_enter Tryz.func36, Tryz.ntmps36
        go_upto_region 1 with (first | (with_reducible refine wpList_box_agg _ rfl 26 (.tmp 0) rfl _ rfl ?_) | (with_reducible refine wpList_box_agg _ rfl 26 (.tmp 1) rfl _ rfl ?_))
        rw [HW.out]
        go_wp2_with fail
        go_ret
        exact ⟨by rw [HS.out]; rfl, HKK.out⟩
    · have HS := Lib.hid (show RQ.same ⟨a0, a1, a2, a3, nr, er⟩ ⟨a0, b1, b2, b3, ns, es⟩ = false by unfold RQ.same; simp [h1])
      have t1 : (a1 == b1) = false := by simpa using h1
      clear h1
      go_enter Tryz.func36, Tryz.ntmps36
      go_upto_region 1 with (first | (with_reducible refine wpList_box_agg _ rfl 26 (.tmp 0) rfl _ rfl ?_) | (with_reducible refine wpList_box_agg _ rfl 26 (.tmp 1) rfl _ rfl ?_))
      rw [HW.out]
      go_wp2_with fail
      go_ret
      exact ⟨by rw [HS.out]; rfl, HKK.out⟩
  · have HS := Lib.hid (show RQ.same ⟨a0, a1, a2, a3, nr, er⟩ ⟨b0, b1, b2, b3, ns, es⟩ = false by unfold RQ.same; simp [h0])
    have t0 : (a0 == b0) = false := by simpa using h0
    clear h0
    go_enter Tryz.func36, Tryz.ntmps36
    go_upto_region 1 with (first | (with_reducible refine wpList_box_agg _ rfl 26 (.tmp 0) rfl _ rfl ?_) | (with_reducible refine wpList_box_agg _ rfl 26 (.tmp 1) rfl _ rfl ?_))
    rw [HW.out]
    go_wp2_with fail
    go_ret
    exact ⟨by rw [HS.out]; rfl, HKK.out⟩
set_option maxHeartbeats 4000000 in
theorem sameAnsD (F G : List Nat) (r s : AN) (ev ew : Value) (w : World) (hr : anV w F r ev) (hs : anV w G s ew) :
    Calls Tryz.prog 37 #[.agg (anL r ev).toArray, .agg (anL s ew).toArray] w fun e w' => e = .returned (.bool (r.same s)) ∧ keepBut [] w w' := by
  obtain ⟨r1, r2, kk⟩ := rowAt.two w 28 (anL r ev).toArray (anL s ew).toArray
  obtain ⟨hn, A, c, g, rfl, _, _, sA, _⟩ := hr
  obtain ⟨hm, B, d, h, rfl, _, _, sB, _⟩ := hs
  have H12 := Lib.hid kk
  have sA2 := sA.keep kk (by simp)
  have sB2 := sB.keep kk (by simp)
  have xe := (r1.cell 37).trans (anL_env hn)
  have ye := (r2.cell 37).trans (anL_env hm)
  have xr := r1.range (anL_name r (.slice A r.env.length c))
  have yr := r2.range (anL_name s (.slice B s.env.length d))
  have x0 := r1.cell 0
  have y0 := r2.cell 0
  have x1 := r1.cell 1
  have y1 := r2.cell 1
  have x2 := r1.cell 2
  have y2 := r2.cell 2
  have x3 := r1.cell 3
  have y3 := r2.cell 3
  have x4 := r1.cell 4
  have y4 := r2.cell 4
  rw [show (anL r (.slice A r.env.length c)).toArray[0]? = some (.int .i64 r.client) from rfl] at x0
  rw [show (anL s (.slice B s.env.length d)).toArray[0]? = some (.int .i64 s.client) from rfl] at y0
  rw [show (anL r (.slice A r.env.length c)).toArray[1]? = some (.int .i64 r.num) from rfl] at x1
  rw [show (anL s (.slice B s.env.length d)).toArray[1]? = some (.int .i64 s.num) from rfl] at y1
  rw [show (anL r (.slice A r.env.length c)).toArray[2]? = some (.int .i64 r.code) from rfl] at x2
  rw [show (anL s (.slice B s.env.length d)).toArray[2]? = some (.int .i64 s.code) from rfl] at y2
  rw [show (anL r (.slice A r.env.length c)).toArray[3]? = some (.int .i64 r.version) from rfl] at x3
  rw [show (anL s (.slice B s.env.length d)).toArray[3]? = some (.int .i64 s.version) from rfl] at y3
  rw [show (anL r (.slice A r.env.length c)).toArray[4]? = some (.int .i64 r.epoch) from rfl] at x4
  rw [show (anL s (.slice B s.env.length d)).toArray[4]? = some (.int .i64 s.epoch) from rfl] at y4
  obtain ⟨a0, a1, a2, a3, a4, nr, er⟩ := r
  obtain ⟨b0, b1, b2, b3, b4, ns, es⟩ := s
  dsimp only at hn hm xr yr sA2 sB2 x0 y0 x1 y1 x2 y2 x3 y3 x4 y4 xe ye
  obtain ⟨w2, hw2⟩ : ∃ w2, (w.alloc (.cells (anL ⟨a0, a1, a2, a3, a4, nr, er⟩ (.slice A er.length c)).toArray 28)).alloc (.cells (anL ⟨b0, b1, b2, b3, b4, ns, es⟩ (.slice B es.length d)).toArray 28) = w2 := ⟨_, rfl⟩
  have HW := Lib.hid hw2
  have HN := Lib.hid (And.intro hn hm)
  have HK := H12.out
  dsimp only at HK
  rw [hw2] at HK sA2 sB2 xe ye xr yr x0 y0 x1 y1 x2 y2 x3 y3 x4 y4
  have HKK := Lib.hid HK
  have HX := Lib.hid (And.intro xr yr)
  have HE := Lib.hid (eqBytes_any A B g h c d er es w2 sA2 sB2)
  have HQ := Lib.hid (name_eql nr ns hn hm w2)
  have HI := Lib.hid (show (Tryz.prog.info? 23).map (·.size) = some (nameL nr).length by rw [nameL_len, hn]; exact infoName)
  have HJ := Lib.hid (show (Tryz.prog.info? 23).map (·.size) = some (nameL ns).length by rw [nameL_len, hm]; exact infoName)
  clear H12 HK sA2 sB2 sA sB hn hm xr yr hw2 kk r1 r2
  by_cases h0 : a0 = b0
  · subst h0
    by_cases h1 : a1 = b1
    · subst h1
      by_cases h2 : a2 = b2
      · subst h2
        by_cases h3 : a3 = b3
        · subst h3
          by_cases h4 : a4 = b4
          · subst h4
            by_cases hnm : nr = ns
            · subst hnm
              have HS := Lib.hid (show AN.same ⟨a0, a1, a2, a3, a4, nr, er⟩ ⟨a0, a1, a2, a3, a4, nr, es⟩ = (er == es) by unfold AN.same; simp)
              have hdn : decide (nr = nr) = true := by simp
              rw [hdn] at HQ
              go_enter Tryz.func37, Tryz.ntmps37
              go_upto_region 1 with (first | (with_reducible refine wpList_box_agg _ rfl 28 (.tmp 0) rfl _ rfl ?_) | (with_reducible refine wpList_box_agg _ rfl 28 (.tmp 1) rfl _ rfl ?_))
              rw [HW.out]
              go_wp2_with (first | (refine wpList_load_mid_g 23 (.tmp 39) rfl w.heap.size 5 rfl (nameL nr) _ HX.out.1 Tryz.underlying23 rfl HI.out ?_ ?_; · rfl) | (refine wpList_load_mid_g 23 (.tmp 41) rfl (w.heap.size + 1) 5 rfl (nameL nr) _ HX.out.2 Tryz.underlying23 rfl HJ.out ?_ ?_; · rfl) | (refine wpList_bin_agg_g _ .eql 23 23 (.tmp 40) (.tmp 42) rfl guardName (nameL nr).toArray (nameL nr).toArray rfl rfl _ HQ.out ?_ ?_; · rfl) | (go_at_call 11; refine HE.out.mono ?_; rintro e w' ⟨rfl, rfl⟩))
              go_ret
              exact ⟨by rw [HS.out]; rfl, HKK.out⟩
            · have HS := Lib.hid (show AN.same ⟨a0, a1, a2, a3, a4, nr, er⟩ ⟨a0, a1, a2, a3, a4, ns, es⟩ = false by unfold AN.same; simp [hnm])
              have hdn : decide (nr = ns) = false := by simp [hnm]
              rw [hdn] at HQ
              clear hnm
              go_enter Tryz.func37, Tryz.ntmps37
              go_upto_region 1 with (first | (with_reducible refine wpList_box_agg _ rfl 28 (.tmp 0) rfl _ rfl ?_) | (with_reducible refine wpList_box_agg _ rfl 28 (.tmp 1) rfl _ rfl ?_))
              rw [HW.out]
              go_wp2_with (first | (refine wpList_load_mid_g 23 (.tmp 39) rfl w.heap.size 5 rfl (nameL nr) _ HX.out.1 Tryz.underlying23 rfl HI.out ?_ ?_; · rfl) | (refine wpList_load_mid_g 23 (.tmp 41) rfl (w.heap.size + 1) 5 rfl (nameL ns) _ HX.out.2 Tryz.underlying23 rfl HJ.out ?_ ?_; · rfl) | (refine wpList_bin_agg_g _ .eql 23 23 (.tmp 40) (.tmp 42) rfl guardName (nameL nr).toArray (nameL ns).toArray rfl rfl _ HQ.out ?_ ?_; · rfl))
              go_ret
              exact ⟨by rw [HS.out]; rfl, HKK.out⟩
          · have HS := Lib.hid (show AN.same ⟨a0, a1, a2, a3, a4, nr, er⟩ ⟨a0, a1, a2, a3, b4, ns, es⟩ = false by unfold AN.same; simp [h4])
            have t4 : (a4 == b4) = false := by simpa using h4
            clear h4
            go_enter Tryz.func37, Tryz.ntmps37
            go_upto_region 1 with (first | (with_reducible refine wpList_box_agg _ rfl 28 (.tmp 0) rfl _ rfl ?_) | (with_reducible refine wpList_box_agg _ rfl 28 (.tmp 1) rfl _ rfl ?_))
            rw [HW.out]
            go_wp2_with fail
            go_ret
            exact ⟨by rw [HS.out]; rfl, HKK.out⟩
        · have HS := Lib.hid (show AN.same ⟨a0, a1, a2, a3, a4, nr, er⟩ ⟨a0, a1, a2, b3, b4, ns, es⟩ = false by unfold AN.same; simp [h3])
          have t3 : (a3 == b3) = false := by simpa using h3
          clear h3
          go_enter Tryz.func37, Tryz.ntmps37
          go_upto_region 1 with (first | (with_reducible refine wpList_box_agg _ rfl 28 (.tmp 0) rfl _ rfl ?_) | (with_reducible refine wpList_box_agg _ rfl 28 (.tmp 1) rfl _ rfl ?_))
          rw [HW.out]
          go_wp2_with fail
          go_ret
          exact ⟨by rw [HS.out]; rfl, HKK.out⟩
      · have HS := Lib.hid (show AN.same ⟨a0, a1, a2, a3, a4, nr, er⟩ ⟨a0, a1, b2, b3, b4, ns, es⟩ = false by unfold AN.same; simp [h2])
        have t2 : (a2 == b2) = false := by simpa using h2
        clear h2
        go_enter Tryz.func37, Tryz.ntmps37
        go_upto_region 1 with (first | (with_reducible refine wpList_box_agg _ rfl 28 (.tmp 0) rfl _ rfl ?_) | (with_reducible refine wpList_box_agg _ rfl 28 (.tmp 1) rfl _ rfl ?_))
        rw [HW.out]
        go_wp2_with fail
        go_ret
        exact ⟨by rw [HS.out]; rfl, HKK.out⟩
    · have HS := Lib.hid (show AN.same ⟨a0, a1, a2, a3, a4, nr, er⟩ ⟨a0, b1, b2, b3, b4, ns, es⟩ = false by unfold AN.same; simp [h1])
      have t1 : (a1 == b1) = false := by simpa using h1
      clear h1
      go_enter Tryz.func37, Tryz.ntmps37
      go_upto_region 1 with (first | (with_reducible refine wpList_box_agg _ rfl 28 (.tmp 0) rfl _ rfl ?_) | (with_reducible refine wpList_box_agg _ rfl 28 (.tmp 1) rfl _ rfl ?_))
      rw [HW.out]
      go_wp2_with fail
      go_ret
      exact ⟨by rw [HS.out]; rfl, HKK.out⟩
  · have HS := Lib.hid (show AN.same ⟨a0, a1, a2, a3, a4, nr, er⟩ ⟨b0, b1, b2, b3, b4, ns, es⟩ = false by unfold AN.same; simp [h0])
    have t0 : (a0 == b0) = false := by simpa using h0
    clear h0
    go_enter Tryz.func37, Tryz.ntmps37
    go_upto_region 1 with (first | (with_reducible refine wpList_box_agg _ rfl 28 (.tmp 0) rfl _ rfl ?_) | (with_reducible refine wpList_box_agg _ rfl 28 (.tmp 1) rfl _ rfl ?_))
    rw [HW.out]
    go_wp2_with fail
    go_ret
    exact ⟨by rw [HS.out]; rfl, HKK.out⟩
end Go.Proofs.YthfdkonhjpdflaaGreatDoor
end

section
namespace Go.Proofs.YthfdkonhjpdflaaGreatDoor
open Go.RowKit
set_option linter.unusedVariables false
set_option maxRecDepth 100000
set_option linter.unusedSimpArgs false

theorem intsV.held {w : World} {F : List Nat} {v : Value} {l : List Int} (h : intsV w F v l) (hl : l.length ≤ 17592186044416) : held w F v l := by
  obtain ⟨A, c, g, h1, h2, h3, h5, h6⟩ := h
  exact ⟨A, c, g, h1, h2, h3, hl, h5, h6⟩
set_option maxHeartbeats 2000000 in
theorem sameConfD (F G : List Nat) (c d : CF) (cv dv : Value) (w : World) (hc : intsV w F cv c.chain) (hd : intsV w G dv d.chain) (hbc : c.chain.length ≤ 17592186044416) (hbd : d.chain.length ≤ 17592186044416) :
    Calls Tryz.prog 38 #[.agg (cfL c cv).toArray, .agg (cfL d dv).toArray] w fun e w' => e = .returned (.bool (c.same d)) ∧ keepBut [] w w' := by
  obtain ⟨r1, r2, kk⟩ := rowAt.two w 31 (cfL c cv).toArray (cfL d dv).toArray
  obtain ⟨cn, cf, cl⟩ := c
  obtain ⟨dn, df, dl⟩ := d
  unfold cfL at r1 r2 kk ⊢
  dsimp only at r1 r2 kk hc hd hbc hbd ⊢
  have hc2 := hc.keep kk (by simp)
  have hd2 := hd.keep kk (by simp)
  obtain ⟨A, cc, g, rfl, _⟩ := id hc
  obtain ⟨B, dc, h, rfl, _⟩ := id hd
  have HE := Lib.hid (eqInts_any F G _ _ cl dl _ (hc2.held hbc) (hd2.held hbd))
  have HK := Lib.hid kk
  clear hbc hbd r1 r2 kk hc2 hd2 hc hd
  by_cases h1 : cn = dn
  · subst h1
    by_cases h2 : cf = df
    · subst h2
      have HS := Lib.hid (show CF.same ⟨cn, cf, cl⟩ ⟨cn, cf, dl⟩ = decide (cl = dl) by simp [CF.same])
      go_enter Tryz.func38, Tryz.ntmps38
      go_wp2_with fail
      refine HE.out.mono ?_
      rintro e w' ⟨rfl, k⟩
      have HK2 := Lib.hid (HK.out.then k (by simp))
      clear k
      go_wp2_with fail
      go_ret
      exact ⟨by rw [HS.out]; rfl, HK2.out⟩
    · have HS := Lib.hid (show CF.same ⟨cn, cf, cl⟩ ⟨cn, df, dl⟩ = false by simp [CF.same, h2])
      have t2 : (cf == df) = false := by simpa using h2
      clear h2
      go_enter Tryz.func38, Tryz.ntmps38
      go_wp2_with fail
      go_ret
      exact ⟨by rw [HS.out]; rfl, HK.out⟩
  · have HS := Lib.hid (show CF.same ⟨cn, cf, cl⟩ ⟨dn, df, dl⟩ = false by simp [CF.same, h1])
    have t1 : (cn == dn) = false := by simpa using h1
    clear h1
    go_enter Tryz.func38, Tryz.ntmps38
    go_wp2_with fail
    go_ret
    exact ⟨by rw [HS.out]; rfl, HK.out⟩
end Go.Proofs.YthfdkonhjpdflaaGreatDoor
end
