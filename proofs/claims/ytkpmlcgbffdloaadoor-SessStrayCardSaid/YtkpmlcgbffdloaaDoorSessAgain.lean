/-
  SESSAGAIN: the stage's theorem, its walk.
-/
import Derived.Test.YtkpmlcgbffdloaaDoorSess23
import Derived.Test.YtkpmlcgbffdloaaDoorSessAgainPure
import Derived.Handy
namespace Go.Proofs.YtkpmlcgbffdloaaDoor
open Go.RowKit
set_option linter.unusedVariables false
set_option maxRecDepth 100000
set_option linter.unusedSimpArgs false

theorem ints1 (w : World) (a : Int) : intsV (w.alloc (.cells #[.int .i64 a] 3)) [w.heap.size] (.slice (some ⟨w.heap.size, 0, none⟩) 1 1) [a] :=
  ⟨_, _, w.heap.size, rfl, by simp, by simp [maxLen], reads_ints w 3 [.int .i64 a], by simp⟩
set_option maxHeartbeats 16000000 in
theorem sessAgain_law (a0 a1 a2 : Int) (w : World) (wf0 : (Lit.int .i64 a0).wf = true) (wf1 : (Lit.int .i64 a1).wf = true) (wf2 : (Lit.int .i64 a2).wf = true) (hsz : sizesAt w) :
    Calls Tryd.prog 6 #[.int .i64 a0, .int .i64 a1, .int .i64 a2] w fun e w' => e = .returned (.bool true) ∧ keepBut [] w w' := by
  simp [Lit.wf, IntKind.min, IntKind.max, IntKind.signed, IntKind.bits] at wf0 wf1 wf2
  have hL := Int.emod_nonneg a0 (show (20 : Int) ≠ 0 by decide)
  have hL2 := Int.emod_lt_of_pos a0 (show (0 : Int) < 20 by decide)
  have hM := Int.emod_nonneg a1 (show (200 : Int) ≠ 0 by decide)
  have hM2 := Int.emod_lt_of_pos a1 (show (0 : Int) < 200 by decide)
  have hT := Int.emod_nonneg a2 (show (60 : Int) ≠ 0 by decide)
  have hT2 := Int.emod_lt_of_pos a2 (show (0 : Int) < 60 by decide)
  have B0 := Lib.hid (fun W => bring_any a0 20 wf0.1 wf0.2 (by decide) (by decide) W)
  have B1 := Lib.hid (fun W => bring_any a1 200 wf1.1 wf1.2 (by decide) (by decide) W)
  have B2 := Lib.hid (fun W => bring_any a2 60 wf2.1 wf2.2 (by decide) (by decide) W)
  generalize a0 % 20 = b0 at *
  generalize a1 % 200 = b1 at *
  generalize a2 % 60 = t at *
  have hw0 : IntKind.i64.wrap (1 + b0) = 1 + b0 := by rw [IntKind.wrap_i64]; omega
  have hw1 : IntKind.i64.wrap (1 + b1) = 1 + b1 := by rw [IntKind.wrap_i64]; omega
  have hwt : IntKind.i64.wrap (t + 1) = t + 1 := by rw [IntKind.wrap_i64]; omega
  obtain ⟨l, hl⟩ : ∃ l, 1 + b0 = l := ⟨_, rfl⟩
  obtain ⟨m, hm⟩ : ∃ m, 1 + b1 = m := ⟨_, rfl⟩
  have HB := Lib.hid (show (1 ≤ l ∧ l ≤ 20) ∧ (1 ≤ m ∧ m ≤ 200) ∧ (0 ≤ t ∧ t < 60) by omega)
  have hl0 : ¬ l = 0 := by omega
  have hl2 : (l == 0) = false := by simp; omega
  rw [hl] at hw0
  rw [hm] at hw1
  have HSZ := Lib.hid hsz
  clear wf0 wf1 wf2 hL hL2 hM hM2 hT hT2 hsz
  go_enter Tryd.func6, Tryd.ntmps6
  go_wp2_with (first
    | (go_at_call 13; (refine (worksQ_any _ HSZ.out).mono ?_); rintro e w1 ⟨rfl, k1⟩; have K1 := Lib.hid k1; clear k1)
    | (go_at_call 16; first | ((with_reducible refine (B0.out _).mono ?_); rintro e w2 ⟨rfl, rfl⟩) | ((with_reducible refine (B1.out _).mono ?_); rintro e w2 ⟨rfl, rfl⟩) | ((with_reducible refine (B2.out _).mono ?_); rintro e w2 ⟨rfl, rfl⟩))
    | (go_at_call 14; (refine (begun_any [] l m w _ K1.out HSZ.out (by simp) ⟨HB.out.1.1, by have := HB.out; omega⟩ ⟨HB.out.2.1.1, by have := HB.out; omega⟩).mono ?_); rintro e w3 ⟨p, q, rfl, h3, _, _, _⟩; rw [ag_start] at h3; have H3 := Lib.hid h3; clear h3))
  go_loopw [9, 10, 11] (fun v9 v10 v11 wx => ∃ k : Nat, v9 = .int .i64 ((k : Int) + 1) ∧ Hid ((k : Int) ≤ m) ∧ Hid (lawQ w [] wx p q (agS l m k (decide (t < (k : Int)))))) (fun v9 _ _ _ => 300 - (intOf v9).toNat)
  case atStart => exact ⟨0, rfl, Lib.hid (by have := HB.out; show (0 : Int) ≤ m; omega), by rw [decide_eq_false (by have := HB.out; show ¬ t < (0 : Int); omega)]; exact H3⟩
  case round =>
    clear H3
    obtain ⟨k, rfl, HK, HQ⟩ := hrel
    have hwk : IntKind.i64.wrap ((k : Int) + 1 + 1) = (k : Int) + 1 + 1 := by rw [IntKind.wrap_i64]; have := HB.out; have := HK.out; omega
    have hmd : ((k : Int) + 1).tmod l = ((k : Int) + 1) % l := Int.tmod_eq_emod_of_nonneg (by omega)
    by_cases hkm : (k : Int) + 1 ≤ m
    · obtain ⟨b, hb⟩ : ∃ b, agA l k = b := ⟨_, rfl⟩
      have hag : (((k : Int) + 1) % l == 0) = b := by rw [← hb]; unfold agA; by_cases h : ((k : Int) + 1) % l = 0 <;> simp [h]
      have HT := Lib.hid (And.intro hkm hb)
      clear hb
      rcases Int.lt_trichotomy (k : Int) t with hkt | hkt | hkt
      · have q1 : ((k : Int) + 1 == t + 1) = false := by simp; omega
        have q2 : decide (t < (k : Int) + 1) = false := by simp; omega
        have q3 : decide ((k : Int) + 1 ≤ t) = true := by simp; omega
        have q2' : (k : Int) + 1 ≤ t := by omega
        have HI0 := Lib.hid (show lawQ w [] wr p q (agS l m k false) by have := HQ.out; rwa [show decide (t < (k : Int)) = false by simp; omega] at this)
        have HKT := Lib.hid hkt
        clear hkt HQ
        go_wp2_with (first
          | (go_at_call 24; (refine (HI0.out.tick (ag_tick0 l m k HT.out.1)).mono ?_); rintro e w4 ⟨v, D, K, rfl, hs, h4, _⟩; have HQ2 := Lib.hid h4; have HV := Lib.hid hs; clear hs h4)
          | (go_at_call 23; (refine (HV.out.sends (b := true) ag_send0 (by rw [show agAsks.length = 3 from rfl]; decide)).mono ?_); rintro e w5 ⟨rfl, rfl⟩)
          | (go_at_call 18; (refine (HQ2.out.waits (b := true) rfl).mono ?_); rintro e w6 ⟨rfl, rfl⟩)
          | (go_at_call 25; (refine (HQ2.out.late (b := false) rfl).mono ?_); rintro e w6 ⟨rfl, rfl⟩))
        go_roundw
        case rel => exact ⟨k + 1, by simp, Lib.hid (by have := HT.out.1; omega), Lib.hid (by rw [show decide (t < ((k + 1 : Nat) : Int)) = false from by simp; have := HKT.out; omega]; exact HQ2.out)⟩
        case measure => simp only [intOf]; have := HK.out; have := HB.out; omega
      · cases b
        · have q1 : ((k : Int) + 1 == t + 1) = true := by simp; omega
          have q3 : decide ((k : Int) + 1 ≤ t) = false := by simp; omega
          have q3' : ¬ (k : Int) + 1 ≤ t := by omega
          have q3'' : t < (k : Int) + 1 := by omega
          have HI0 := Lib.hid (show lawQ w [] wr p q (agS l m k false) by have := HQ.out; rwa [show decide (t < (k : Int)) = false by simp; omega] at this)
          have HKT := Lib.hid hkt
          clear hkt HQ
          go_wp2_with (first
            | (go_at_call 21; (refine (confF_any 22 1 [12] _ [wr.heap.size] _ (ints1 wr 12)).mono ?_); rintro e w7 ⟨rfl, k7⟩; have HC := Lib.hid ((HI0.out.over ((keepBut.refl [] wr).alloc _)).over k7); have HI := Lib.hid (And.intro ((ints1 wr 12).keep k7 (by simp)) HI0.out.on.lt.1); clear k7)
            | (go_at_call 17; (refine (HC.out.take (confK_val 22 1 HI.out.1) (fun y hy => by have := HI.out.2; simp only [List.mem_singleton] at hy; omega) (by show (0 : Nat) ≤ 1000000; omega) (by show (1 : Nat) ≤ 1000000; omega) (ag_take l m k)).mono ?_); rintro e w8 ⟨av, G', rfl, _, _, h8, _⟩; have HM := Lib.hid h8; clear h8 HC)
            | (go_at_call 24; (refine (HM.out.tick (ag_tickM l m k HT.out.1)).mono ?_); rintro e w4 ⟨v, D, K, rfl, hs, h4, _⟩; have HQ2 := Lib.hid h4; have HV := Lib.hid hs; clear hs h4)
            | (go_at_call 23; (refine (HV.out.sends (b := true) (by rw [HT.out.2]; exact ag_sendM false) (by rw [HT.out.2, show (agReq :: ifL false agAsks).length = 1 from rfl]; decide)).mono ?_); rintro e w5 ⟨rfl, rfl⟩)
            | (go_at_call 18; (refine (HQ2.out.waits (b := true) rfl).mono ?_); rintro e w6 ⟨rfl, rfl⟩)
            | (go_at_call 25; (refine (HQ2.out.late (b := false) rfl).mono ?_); rintro e w6 ⟨rfl, rfl⟩))
          go_roundw
          case rel => exact ⟨k + 1, by simp, Lib.hid (by have := HT.out.1; omega), Lib.hid (by rw [show decide (t < ((k + 1 : Nat) : Int)) = true from by simp; have := HKT.out; omega]; exact HQ2.out)⟩
          case measure => simp only [intOf]; have := HK.out; have := HB.out; omega
        · have q1 : ((k : Int) + 1 == t + 1) = true := by simp; omega
          have q3 : decide ((k : Int) + 1 ≤ t) = false := by simp; omega
          have q3' : ¬ (k : Int) + 1 ≤ t := by omega
          have q3'' : t < (k : Int) + 1 := by omega
          have HI0 := Lib.hid (show lawQ w [] wr p q (agS l m k false) by have := HQ.out; rwa [show decide (t < (k : Int)) = false by simp; omega] at this)
          have HKT := Lib.hid hkt
          clear hkt HQ
          go_wp2_with (first
            | (go_at_call 21; (refine (confF_any 22 1 [12] _ [wr.heap.size] _ (ints1 wr 12)).mono ?_); rintro e w7 ⟨rfl, k7⟩; have HC := Lib.hid ((HI0.out.over ((keepBut.refl [] wr).alloc _)).over k7); have HI := Lib.hid (And.intro ((ints1 wr 12).keep k7 (by simp)) HI0.out.on.lt.1); clear k7)
            | (go_at_call 17; (refine (HC.out.take (confK_val 22 1 HI.out.1) (fun y hy => by have := HI.out.2; simp only [List.mem_singleton] at hy; omega) (by show (0 : Nat) ≤ 1000000; omega) (by show (1 : Nat) ≤ 1000000; omega) (ag_take l m k)).mono ?_); rintro e w8 ⟨av, G', rfl, _, _, h8, _⟩; have HM := Lib.hid h8; clear h8 HC)
            | (go_at_call 24; (refine (HM.out.tick (ag_tickM l m k HT.out.1)).mono ?_); rintro e w4 ⟨v, D, K, rfl, hs, h4, _⟩; have HQ2 := Lib.hid h4; have HV := Lib.hid hs; clear hs h4)
            | (go_at_call 23; (refine (HV.out.sends (b := true) (by rw [HT.out.2]; exact ag_sendM true) (by rw [HT.out.2, show (agReq :: ifL true agAsks).length = 4 from rfl]; decide)).mono ?_); rintro e w5 ⟨rfl, rfl⟩)
            | (go_at_call 18; (refine (HQ2.out.waits (b := true) rfl).mono ?_); rintro e w6 ⟨rfl, rfl⟩)
            | (go_at_call 25; (refine (HQ2.out.late (b := false) rfl).mono ?_); rintro e w6 ⟨rfl, rfl⟩))
          go_roundw
          case rel => exact ⟨k + 1, by simp, Lib.hid (by have := HT.out.1; omega), Lib.hid (by rw [show decide (t < ((k + 1 : Nat) : Int)) = true from by simp; have := HKT.out; omega]; exact HQ2.out)⟩
          case measure => simp only [intOf]; have := HK.out; have := HB.out; omega
      · cases b
        · have q1 : ((k : Int) + 1 == t + 1) = false := by simp; omega
          have q2 : decide (t < (k : Int) + 1) = true := by simp; omega
          have q2' : t < (k : Int) + 1 := by omega
          have q3 : decide ((k : Int) + 1 ≤ t) = false := by simp; omega
          have q3' : ¬ (k : Int) + 1 ≤ t := by omega
          have HI0 := Lib.hid (show lawQ w [] wr p q (agS l m k true) by have := HQ.out; rwa [show decide (t < (k : Int)) = true by simp; omega] at this)
          have HKT := Lib.hid hkt
          clear hkt HQ
          go_wp2_with (first
            | (go_at_call 24; (refine (HI0.out.tick (ag_tick1 l m k HT.out.1)).mono ?_); rintro e w4 ⟨v, D, K, rfl, hs, h4, _⟩; have HQ2 := Lib.hid h4; have HV := Lib.hid hs; clear hs h4)
            | (go_at_call 23; (refine (HV.out.sends (b := true) (by rw [HT.out.2]; exact ag_send1 false) (by rw [HT.out.2, show (ifL false (agAsks ++ [agReq])).length = 0 from rfl]; decide)).mono ?_); rintro e w5 ⟨rfl, rfl⟩)
            | (go_at_call 18; (refine (HQ2.out.waits (b := true) rfl).mono ?_); rintro e w6 ⟨rfl, rfl⟩)
            | (go_at_call 25; (refine (HQ2.out.late (b := false) rfl).mono ?_); rintro e w6 ⟨rfl, rfl⟩))
          go_roundw
          case rel => exact ⟨k + 1, by simp, Lib.hid (by have := HT.out.1; omega), Lib.hid (by rw [show decide (t < ((k + 1 : Nat) : Int)) = true from by simp; have := HKT.out; omega]; exact HQ2.out)⟩
          case measure => simp only [intOf]; have := HK.out; have := HB.out; omega
        · have q1 : ((k : Int) + 1 == t + 1) = false := by simp; omega
          have q2 : decide (t < (k : Int) + 1) = true := by simp; omega
          have q2' : t < (k : Int) + 1 := by omega
          have q3 : decide ((k : Int) + 1 ≤ t) = false := by simp; omega
          have q3' : ¬ (k : Int) + 1 ≤ t := by omega
          have HI0 := Lib.hid (show lawQ w [] wr p q (agS l m k true) by have := HQ.out; rwa [show decide (t < (k : Int)) = true by simp; omega] at this)
          have HKT := Lib.hid hkt
          clear hkt HQ
          go_wp2_with (first
            | (go_at_call 24; (refine (HI0.out.tick (ag_tick1 l m k HT.out.1)).mono ?_); rintro e w4 ⟨v, D, K, rfl, hs, h4, _⟩; have HQ2 := Lib.hid h4; have HV := Lib.hid hs; clear hs h4)
            | (go_at_call 23; (refine (HV.out.sends (b := true) (by rw [HT.out.2]; exact ag_send1 true) (by rw [HT.out.2, show (ifL true (agAsks ++ [agReq])).length = 4 from rfl]; decide)).mono ?_); rintro e w5 ⟨rfl, rfl⟩)
            | (go_at_call 18; (refine (HQ2.out.waits (b := true) rfl).mono ?_); rintro e w6 ⟨rfl, rfl⟩)
            | (go_at_call 25; (refine (HQ2.out.late (b := false) rfl).mono ?_); rintro e w6 ⟨rfl, rfl⟩))
          go_roundw
          case rel => exact ⟨k + 1, by simp, Lib.hid (by have := HT.out.1; omega), Lib.hid (by rw [show decide (t < ((k + 1 : Nat) : Int)) = true from by simp; have := HKT.out; omega]; exact HQ2.out)⟩
          case measure => simp only [intOf]; have := HK.out; have := HB.out; omega
    · have HKM := Lib.hid (show m < (k : Int) + 1 by omega)
      obtain ⟨on, hon⟩ : ∃ on, decide (t < (k : Int)) = on := ⟨_, rfl⟩
      rw [hon] at HQ
      clear hon
      obtain ⟨s', hs1, hs2⟩ := ag_ask l m (k + 1) on
      have HA := Lib.hid (And.intro hs1 hs2)
      clear hs1 hs2
      go_wp2_with (first
        | (go_at_call 24; (refine (HQ.out.tick (ag_late l m k on HKM.out)).mono ?_); rintro e w4 ⟨v, D, K, rfl, hs, h4, _⟩; obtain ⟨A, c, rfl⟩ := hs.form (n := 0) rfl; have HQ2 := Lib.hid h4; clear hs h4)
        | (go_at_call 18; (refine (HQ2.out.waits (b := false) rfl).mono ?_); rintro e w6 ⟨rfl, rfl⟩)
        | (go_at_call 20; (refine (get_any 1 _).mono ?_); rintro e w7 ⟨rfl, k7⟩; have HQ3 := Lib.hid (HQ2.out.over k7); clear k7)
        | (go_at_call 19; (refine (HQ3.out.asks (getR_val _ [] 1) (b := true) HA.out.1 (by decide)).mono ?_); rintro e w8 ⟨rfl, h8, _⟩; have HQ4 := Lib.hid h8; clear h8)
        | (go_at_call 25; first | ((refine (HQ4.out.late (b := false) HA.out.2).mono ?_); rintro e w6 ⟨rfl, rfl⟩) | ((refine (HQ2.out.late (b := true) rfl).mono ?_); rintro e w6 ⟨rfl, rfl⟩)))
      go_ret
      exact ⟨rfl, HQ4.out.kept⟩
end Go.Proofs.YtkpmlcgbffdloaaDoor
