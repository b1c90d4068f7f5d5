/-
  SESSPLAYS: the law's walk.
-/
import Derived.Test.YtkpmlcgbffdloaaDoorSPlay22
import Derived.Test.YtkpmlcgbffdloaaDoorOpenDo
namespace Go.Proofs.YtkpmlcgbffdloaaDoor
open Go.RowKit
set_option linter.unusedVariables false
set_option maxRecDepth 100000
set_option linter.unusedSimpArgs false

def playsRel (w0 : World) (p q m n : Nat) (v9 : Value) (wx : World) : Prop := ∃ i : Nat, i ≤ n ∧ v9 = .int .i64 (i : Int) ∧ ∃ s, Hid (lawB w0 wx p q m s)
set_option maxHeartbeats 8000000 in
theorem sessPlays_yes (a0 a1 a2 a3 : Int) (A : Option Addr) (n c : Nat) (w : World) (hv : 0 ≤ a0 ∧ a0 ≤ 2 ∧ 1 ≤ a1 ∧ a1 ≤ 9007199254740991 ∧ 1 ≤ a2 ∧ a2 ≤ 1000 ∧ 1 ≤ a3 ∧ a3 ≤ 100000) (hr : dos w A n) (hn : n ≤ c) (hc : c ≤ maxLen) (hsz : sizesAt w) :
    Calls Tryd.prog 3 #[.agg #[.int .i64 a0, .int .i64 a1, .int .i64 a2, .int .i64 a3], .slice A n c] w fun e w' => e = .returned (.bool true) ∧ keepBut [] w w' := by
  have hnm : n ≤ 9223372036854775807 := by unfold maxLen at hc; omega
  have HSZ := Lib.hid hsz
  have HR := Lib.hid hr
  obtain ⟨h1, h2, h3, h4, h5, h6, h7, h8⟩ := hv
  have HN := Lib.hid (fun W => newQ_any a0 a1 a2 a3 W ⟨h1, h2⟩ ⟨h3, h4⟩ ⟨h5, h6⟩ ⟨h7, h8⟩)
  have HM := Lib.hid (fun W => newM_any a0 a1 a2 a3 W ⟨h1, h2⟩ ⟨h3, h4⟩ ⟨h5, h6⟩ ⟨h7, h8⟩)
  have HF := Lib.hid (fit_start (c := a0) (f := a1) (l := a2) (m := a3) ⟨h1, h2⟩ h3 ⟨h5, h6⟩ ⟨h7, h8⟩)
  clear hr hn hc hsz h1 h2 h3 h4 h5 h6 h7 h8
  have r1 := rowAt.new w 22 #[.int .i64 a0, .int .i64 a1, .int .i64 a2, .int .i64 a3]
  have k1 := (keepBut.refl [] w).alloc (.cells #[.int .i64 a0, .int .i64 a1, .int .i64 a2, .int .i64 a3] 22)
  obtain ⟨w1, hw1⟩ : ∃ w1, w.alloc (.cells #[.int .i64 a0, .int .i64 a1, .int .i64 a2, .int .i64 a3] 22) = w1 := ⟨_, rfl⟩
  rw [hw1] at r1 k1
  obtain ⟨b, hb⟩ : ∃ b, w.heap.size = b := ⟨_, rfl⟩
  rw [hb] at r1
  have HC := Lib.hid (show ∀ W, keepBut [] w1 W → W.cell? ⟨b, 0, none⟩ = some (.int .i64 a0) ∧ W.cell? ⟨b, 1, none⟩ = some (.int .i64 a1) ∧ W.cell? ⟨b, 2, none⟩ = some (.int .i64 a2) ∧ W.cell? ⟨b, 3, none⟩ = some (.int .i64 a3) from fun W hk => by
    have r := hk.row r1 (by simp)
    exact ⟨r.cell 0, r.cell 1, r.cell 2, r.cell 3⟩)
  have H1 := Lib.hid k1
  obtain ⟨y0, y1, y2, y3⟩ := HC.out w1 (keepBut.refl _ _)
  have HW := Lib.hid hw1
  clear r1 k1 hw1
  go_enter Tryd.func3, Tryd.ntmps3
  go_wp2_with (first
    | (with_reducible refine wpList_box_to _ _ rfl 22 (.tmp 0) rfl _ rfl HW.out ?_; try simp only [hb])
    | (go_at_call 9; (with_reducible refine (HN.out _).mono ?_); rintro e w2 ⟨p, q, rfl, q2, k2, hp2, hq2⟩; obtain ⟨z0, z1, z2, z3⟩ := HC.out w2 k2; have H2 := Lib.hid (And.intro q2 (And.intro k2 (And.intro hp2 hq2))); clear q2 k2 hp2 hq2)
    | (go_at_call 10; (with_reducible refine (HM.out _).mono ?_); rintro e w3 ⟨m, rfl, m3, k3, hm3⟩; have H3 := Lib.hid (And.intro m3 (And.intro k3 hm3)); clear m3 k3 hm3))
  have hsz := H1.out.size
  have hpw := H2.out.1.row.lt
  have hqw := H2.out.1.ch.lt
  have hmw := H3.out.1.row.lt
  have h32 := H3.out.2.1.size
  obtain ⟨hk2, hp2, hq2⟩ := H2.out.2
  have hm2 := H3.out.2.2
  have hL : lawB w w3 p q m (SS.start a0 a1 a2 a3) := ⟨⟨⟨⟨_, _, [], H2.out.1.over H3.out.2.1, by simp⟩, HF.out, ⟨by simp; omega, by simp; omega⟩, fun y hy => by simp only [List.mem_singleton] at hy; omega⟩, ⟨⟨_, _, [], H3.out.1, by simp⟩, HF.out, by simp; omega, fun y hy => by simp only [List.mem_cons, List.not_mem_nil, or_false] at hy; omega⟩⟩, (H1.out.then hk2 (by simp)).then H3.out.2.1 (by simp), ⟨by omega, by omega, by have := hk2.size; omega⟩, HSZ.out⟩
  have HL := Lib.hid hL
  clear hsz hpw hqw hmw h32 hk2 hp2 hq2 hm2 hL y0 y1 y2 y3 z0 z1 z2 z3
  go_loopw [9] (fun v9 wx => playsRel w p q m n v9 wx) (fun v9 _ => n - (intOf v9).toNat)
  case atStart => exact ⟨0, Nat.zero_le _, rfl, _, HL⟩
  case round =>
    obtain ⟨i, hil, rfl, s, HB⟩ := hrel
    have HWK := Lib.hid (worksQ_any wr (HSZ.out.keep HB.out.kept (by simp)))
    by_cases hlt : i < n
    · have hi2 : (i : Int) < (n : Int) := by omega
      by_cases h150 : i < 150
      · have hi3 : (i : Int) < 150 := by omega
        have hi0 : (0 : Int) ≤ (i : Int) := by omega
        have hwi : IntKind.i64.wrap ((i : Int) + 1) = (i : Int) + 1 := by rw [IntKind.wrap_i64]; omega
        obtain ⟨g, o, rfl, hg, hel⟩ := HR.out (by omega)
        obtain ⟨d, cv, ev, xe, xa, xc, xv, xb, F, hrg, hdv, hF⟩ := hel i hlt
        have HST := Lib.hid (step_any HB.out hdv hF)
        have hXl : (doL d cv ev xe xa xc xv xb).length = 127 := doL_len hdv.r.1 hdv.p.rn hdv.p.an
        have hrw : wr.rangeAt g (o + i * 127) (doL d cv ev xe xa xc xv xb) := fun r u hu => (HB.out.kept.cell (p := ⟨g, o + i * 127 + r, none⟩) hg (by simp)).trans (hrg r u hu)
        obtain ⟨X, hX⟩ : ∃ X, doL d cv ev xe xa xc xv xb = X := ⟨_, rfl⟩
        rw [hX] at HST hXl hrw
        have HX := Lib.hid (And.intro hrw (show (Tryd.prog.info? 46).map (·.size) = some X.length by rw [hXl]; exact info_do))
        clear hXl hrw hX hrg hdv hF hel hg
        go_wp2_with (first
          | (refine wpList_load_mid rfl 46 (.tmp 62) rfl g (o + i * 127) rfl X _ HX.out.1 Tryd.underlying46 rfl HX.out.2 ?_)
          | (go_at_call 11; (with_reducible refine HST.out.mono ?_); rintro e w5 ⟨rfl, s', hb5⟩; have HS5 := Lib.hid hb5.same; clear hb5)
          | (go_at_call 12; (with_reducible refine HS5.out.mono ?_); rintro e w6 ⟨rfl, hb6⟩; have HB6 := Lib.hid hb6; clear hb6))
        go_roundw
        case rel => exact ⟨i + 1, by omega, by go_num, s', HB6⟩
        case measure => simp only [intOf]; omega
      · have hi3 : ¬ (i : Int) < 150 := by omega
        go_wp2_with (first
          | (go_at_call 13; (with_reducible refine HWK.out.mono ?_); rintro e w7 ⟨rfl, k7⟩; have H7 := Lib.hid k7; clear k7))
        go_ret
        exact ⟨rfl, HB.out.kept.then H7.out (by simp)⟩
    · obtain rfl : i = n := by omega
      go_wp2_with (first
        | (go_at_call 13; (with_reducible refine HWK.out.mono ?_); rintro e w7 ⟨rfl, k7⟩; have H7 := Lib.hid k7; clear k7))
      go_ret
      exact ⟨rfl, HB.out.kept.then H7.out (by simp)⟩
set_option maxHeartbeats 8000000 in
theorem sessPlays_no (a0 a1 a2 a3 : Int) (A : Option Addr) (n c : Nat) (w : World) (hv : ¬ (0 ≤ a0 ∧ a0 ≤ 2 ∧ 1 ≤ a1 ∧ a1 ≤ 9007199254740991 ∧ 1 ≤ a2 ∧ a2 ≤ 1000 ∧ 1 ≤ a3 ∧ a3 ≤ 100000)) (hn : n ≤ c) (hc : c ≤ maxLen) (hsz : sizesAt w) :
    Calls Tryd.prog 3 #[.agg #[.int .i64 a0, .int .i64 a1, .int .i64 a2, .int .i64 a3], .slice A n c] w fun e w' => e = .returned (.bool true) ∧ keepBut [] w w' := by
  have hnm : n ≤ 9223372036854775807 := by unfold maxLen at hc; omega
  have HN := Lib.hid (fun W => newQ_no a0 a1 a2 a3 W hv)
  have HM := Lib.hid (fun W => newM_no a0 a1 a2 a3 W hv)
  clear hn hc hv
  have r1 := rowAt.new w 22 #[.int .i64 a0, .int .i64 a1, .int .i64 a2, .int .i64 a3]
  have k1 := (keepBut.refl [] w).alloc (.cells #[.int .i64 a0, .int .i64 a1, .int .i64 a2, .int .i64 a3] 22)
  obtain ⟨w1, hw1⟩ : ∃ w1, w.alloc (.cells #[.int .i64 a0, .int .i64 a1, .int .i64 a2, .int .i64 a3] 22) = w1 := ⟨_, rfl⟩
  rw [hw1] at r1 k1
  obtain ⟨b, hb⟩ : ∃ b, w.heap.size = b := ⟨_, rfl⟩
  rw [hb] at r1
  have y0 : w1.cell? ⟨b, 0, none⟩ = some (.int .i64 a0) := r1.cell 0
  have y1 : w1.cell? ⟨b, 1, none⟩ = some (.int .i64 a1) := r1.cell 1
  have y2 : w1.cell? ⟨b, 2, none⟩ = some (.int .i64 a2) := r1.cell 2
  have y3 : w1.cell? ⟨b, 3, none⟩ = some (.int .i64 a3) := r1.cell 3
  have H1 := Lib.hid (And.intro k1 (worksQ_any w1 (hsz.keep k1 (by simp))))
  have HW := Lib.hid hw1
  clear r1 k1 hw1 hsz
  go_enter Tryd.func3, Tryd.ntmps3
  go_wp2_with (first
    | (with_reducible refine wpList_box_to _ _ rfl 22 (.tmp 0) rfl _ rfl HW.out ?_; try simp only [hb])
    | (go_at_call 9; (with_reducible refine (HN.out _).mono ?_); rintro e w2 ⟨rfl, rfl⟩)
    | (go_at_call 10; (with_reducible refine (HM.out _).mono ?_); rintro e w3 ⟨rfl, rfl⟩))
  clear y0 y1 y2 y3
  go_loopw [9] (fun v9 wx => v9 = .int .i64 0 ∧ wx = w1) (fun _ _ => 0)
  case atStart => exact ⟨rfl, rfl⟩
  case round =>
    obtain ⟨rfl, rfl⟩ := hrel
    by_cases h0 : n = 0
    · subst h0
      go_wp2_with (first
        | (go_at_call 13; (with_reducible refine H1.out.2.mono ?_); rintro e w7 ⟨rfl, k7⟩; have H7 := Lib.hid k7; clear k7))
      go_ret
      exact ⟨rfl, H1.out.1.then H7.out (by simp)⟩
    · have hn0 : (0 : Int) < (n : Int) := by omega
      clear h0
      go_wp2_with (first
        | (go_at_call 13; (with_reducible refine H1.out.2.mono ?_); rintro e w7 ⟨rfl, k7⟩; have H7 := Lib.hid k7; clear k7))
      go_ret
      exact ⟨rfl, H1.out.1.then H7.out (by simp)⟩
theorem sessPlays_law (a0 a1 a2 a3 : Int) (A : Option Addr) (n c : Nat) (w : World) (hr : dos w A n) (hn : n ≤ c) (hc : c ≤ maxLen) (hsz : sizesAt w) :
    Calls Tryd.prog 3 #[.agg #[.int .i64 a0, .int .i64 a1, .int .i64 a2, .int .i64 a3], .slice A n c] w fun e w' => e = .returned (.bool true) ∧ keepBut [] w w' := by
  by_cases hv : 0 ≤ a0 ∧ a0 ≤ 2 ∧ 1 ≤ a1 ∧ a1 ≤ 9007199254740991 ∧ 1 ≤ a2 ∧ a2 ≤ 1000 ∧ 1 ≤ a3 ∧ a3 ≤ 100000
  · exact sessPlays_yes a0 a1 a2 a3 A n c w hv hr hn hc hsz
  · exact sessPlays_no a0 a1 a2 a3 A n c w hv hn hc hsz
end Go.Proofs.YtkpmlcgbffdloaaDoor
