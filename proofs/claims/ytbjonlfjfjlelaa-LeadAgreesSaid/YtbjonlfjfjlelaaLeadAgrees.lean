/-
  LeadAgrees: of masters that keep their promises, and tell their votes, what is chosen is one thing; whoever leads then is bound to it.
-/
import Derived.Test.YtbjonlfjfjlelaaLeadAsks
import Derived.Test.YtbjonlfjfjlelaaLeadProps
import Derived.Test.YtbjonlfjfjlelaaTrios
import Derived.BigQuiet
namespace Go.Proofs.Ytbjonlfjfjlelaa
open Go.RowKit
set_option linter.unusedVariables false
set_option maxRecDepth 100000

theorem bring_to (i n m : Int) (h : i % n = m) (hi : -9223372036854775808 ≤ i) (hi' : i ≤ 9223372036854775807) (hn : 0 < n) (hn' : n ≤ 9223372036854775807) (w : World) :
    Calls Try.prog 38 #[.int .i64 i, .int .i64 n] w fun e w' => e = .returned (.int .i64 m) ∧ w = w' := by
  rw [← h]; exact bring_any i n hi hi' hn hn' w
/-- one leader more -/
theorem councilAt.lead {n : Nat} {w0 w w' : World} {g : Nat} {p : Nat → Nat} {F : Nat → List Nat} {P B X : Nat → Int} {ch : Int} {e : Ending} (h : councilAt n w0 w g p F (fun i => LS.new i) P B X ch []) (hn : n < 3) (hq : newLPost (n : Int) w e w') :
    ∃ p' F', e = .returned (.tuple #[.pointer (some ⟨p', 0, none⟩), .int .i64 0]) ∧ w'.cell? ⟨g, n, none⟩ = some (.pointer none) ∧ w'.frozen? ⟨g, n, none⟩ = false ∧
      councilAt (n + 1) w0 (w'.setCell ⟨g, n, none⟩ (.pointer (some ⟨p', 0, none⟩))) g (fun i => if i = n then p' else p i) F' (fun i => LS.new i) P B X ch [] := by
  obtain ⟨cv, Gv, h1, h2, h3, h4, h5, h6⟩ := h
  obtain ⟨p', F', he, h7, hk⟩ := h1.more hq
  rw [show (fun i : Nat => if i = n then LS.new (n : Int) else LS.new i) = fun i : Nat => LS.new i from funext fun i => by by_cases e : i = n <;> simp [e]] at h7
  have r7 := hk.row h2 (by simp)
  have kq := (keepBut.refl [g] w').setCell ⟨g, n, none⟩ (.pointer (some ⟨p', 0, none⟩)) (by simp)
  refine ⟨p', _, he, ?_, r7.free n, cv, Gv, h7.poke (by simp) kq, ?_, fun k q => ((h3 k q).keep hk (by simp)).keep kq (fun y hy hm => h4 (by rw [← List.mem_singleton.1 hm]; exact hy)), h4, h5, h6⟩
  · rw [r7.cell, rowCo_pt _ _ _ _ _ _ n hn]
    unfold ptO
    rw [if_neg (by omega)]
  · rw [← rowCo_setPt _ _ _ _ _ _ _ hn]
    exact r7.set _ _
def agrRel1 (w : World) (g : Nat) (v4 : Value) (wx : World) : Prop :=
  ∃ (k : Nat) (p : Nat → Nat) (F : Nat → List Nat), k ≤ 3 ∧ v4 = .int .i64 (k : Int) ∧ councilAt k w wx g p F (fun i => LS.new i) (fun _ => 0) (fun _ => 0) (fun _ => 0) 0 []
def agrRel2 (w : World) (g n : Nat) (p : Nat → Nat) (v7 : Value) (wx : World) : Prop :=
  ∃ (i : Nat) (F : Nat → List Nat) (s : Nat → LS) (P B X : Nat → Int) (ch : Int) (V : Int → Int) (A : Nat → Int → Prop), i ≤ n ∧ i ≤ 80 ∧ v7 = .int .i64 (i : Int) ∧ councilAt 3 w wx g p F s P B X ch [] ∧ inv s P B X ch V A (3 * (i : Int))

set_option maxHeartbeats 4000000 in
theorem leadAgrees_walk (A : Option Addr) (n d : Nat) (w : World) (ps : trios w A n) (hnd : n ≤ d) (hd : d ≤ maxLen) :
    Calls Try.prog 7 #[.slice A n d] w (yesPost w) := by
  unfold maxLen at hd
  have HPS := Lib.hid ps
  clear ps
  go_enter Try.func7, Try.ntmps7
  go_wp2_with fail
  refine (works_any _).mono ?_; rintro e w1 ⟨rfl, hkw⟩
  have c1 := (crew.nobody hkw (fun _ => 0) (fun _ => []) (fun i => LS.new i)).own_new (.cells (rowCo 0 (fun _ => 0) (fun _ => 0) (fun _ => 0) (fun _ => .slice none 0 0) 0) 83)
  have r1 := rowAt.new w1 83 (rowCo 0 (fun _ => 0) (fun _ => 0) (fun _ => 0) (fun _ => .slice none 0 0) 0)
  have h1 : councilAt 0 w (w1.alloc (.cells (rowCo 0 (fun _ => 0) (fun _ => 0) (fun _ => 0) (fun _ => .slice none 0 0) 0) 83)) w1.heap.size (fun _ => 0) (fun _ => []) (fun i => LS.new i) (fun _ => 0) (fun _ => 0) (fun _ => 0) 0 [] :=
    ⟨_, [], c1, r1, fun k _ => held.nil _ _, by simp, by simp, by simp⟩
  have H1 := Lib.hid h1
  clear hkw c1 r1 h1
  go_wp2_with fail
  go_loopw [4] (fun v4 wx => agrRel1 w w1.heap.size v4 wx) (fun v4 _ => 3 - (intOf v4).toNat)
  case atStart => exact ⟨0, _, _, by omega, rfl, H1.out⟩
  case round =>
    obtain ⟨k, p, F, hk, rfl, h2⟩ := hrel
    clear H1
    have H2 := Lib.hid h2
    clear h2
    by_cases hlt : k < 3
    · have hlt' : (k : Int) < 3 := by omega
      go_wp2_with fail
      refine (newL_any k _ (by omega) hlt').mono ?_; intro e w3 hq
      obtain ⟨p', F', rfl, c3, f3, h3⟩ := H2.out.lead hlt hq
      have H3 := Lib.hid h3
      clear hq h3
      go_wp2_with fail
      go_roundw
      case rel => exact ⟨k + 1, _, _, by omega, by go_num, H3.out⟩
      case measure => simp [intOf]; omega
    · obtain rfl : k = 3 := by omega
      rw [show ((3 : Nat) : Int) = 3 from rfl]
      go_wp2_with fail
      go_loopw [7] (fun v7 wx => agrRel2 w w1.heap.size n p v7 wx) (fun v7 _ => n - (intOf v7).toNat)
      case atStart => exact ⟨0, F, _, _, _, _, _, _, _, by omega, by omega, rfl, H2.out, inv.zero⟩
      case round =>
        obtain ⟨i, F, s, P, B, X, ch, V, AA, hi, hi80, rfl, h3, hi3⟩ := hrel
        clear H2
        by_cases hlt : i < n ∧ i < 80
        · obtain ⟨hlt1, hlt2⟩ := hlt
          have hlt1' : (i : Int) < (n : Int) := by omega
          have hlt2' : (i : Int) < 80 := by omega
          obtain ⟨gA, o, rfl, hgA, hall⟩ := HPS.out (by omega)
          obtain ⟨x, y, z, cx, cy, cz, wx, wy, wz⟩ := hall i hlt1
          have hkc := fun q => h3.kept.cell (p := ⟨gA, q, none⟩) hgA (by simp)
          rw [← hkc] at cx cy cz
          have hxb : -9223372036854775808 ≤ x ∧ x ≤ 9223372036854775807 := by simpa [Lit.wf, IntKind.min, IntKind.max, IntKind.signed, IntKind.bits] using wx
          have hyb : -9223372036854775808 ≤ y ∧ y ≤ 9223372036854775807 := by simpa [Lit.wf, IntKind.min, IntKind.max, IntKind.signed, IntKind.bits] using wy
          have hzb : -9223372036854775808 ≤ z ∧ z ≤ 9223372036854775807 := by simpa [Lit.wf, IntKind.min, IntKind.max, IntKind.signed, IntKind.bits] using wz
          obtain ⟨who, hwho⟩ : ∃ who : Nat, x % 3 = (who : Int) := ⟨(x % 3).toNat, by have := Int.emod_nonneg x (show (3 : Int) ≠ 0 by omega); omega⟩
          have hw3 : who < 3 := by have := Int.emod_lt_of_pos x (show (0 : Int) < 3 by omega); omega
          obtain ⟨whom, hwhom⟩ : ∃ whom : Nat, z % 3 = (whom : Int) := ⟨(z % 3).toNat, by have := Int.emod_nonneg z (show (3 : Int) ≠ 0 by omega); omega⟩
          have hm3 : whom < 3 := by have := Int.emod_lt_of_pos z (show (0 : Int) < 3 by omega); omega
          have hw3' : (who : Int) < 3 := by omega
          obtain ⟨yy, hyy⟩ : ∃ yy, y % 3 = yy := ⟨_, rfl⟩
          have c18 := h3.chose
          have HW := Lib.hid (And.intro hwho (And.intro hwhom hyy))
          have H3 := Lib.hid (And.intro h3 hi3)
          clear h3 hi3 hkc wx wy wz hwho hwhom hyy hall
          go_upto_region 14 with fail
          go_quiet ((first | (go_at_call 38; (with_reducible refine (bring_to x 3 who HW.out.1 hxb.1 hxb.2 (by omega) (by omega) _).mono ?_); rintro e w' ⟨rfl, rfl⟩; exact ⟨rfl, _, rfl⟩) | (go_at_call 38; (with_reducible refine (bring_to z 3 whom HW.out.2.1 hzb.1 hzb.2 (by omega) (by omega) _).mono ?_); rintro e w' ⟨rfl, rfl⟩; exact ⟨rfl, _, rfl⟩)))
          have H4 := Lib.hid (H3.out.1.over ((keepBut.refl [] wr).drewN nq))
          have c18' : (wr.drewN nq).cell? ⟨w1.heap.size, 18, none⟩ = some (.int .i64 ch) := H4.out.chose
          have cy' : (wr.drewN nq).cell? ⟨gA, o + i * 3 + 1, none⟩ = some (.int .i64 y) := cy
          clear c18 cx cy cz
          generalize wr.drewN nq = w4 at *
          go_wp2_with fail
          refine (bring_to y 3 yy HW.out.2.2 hyb.1 hyb.2 (by omega) (by omega) _).mono ?_; rintro e w' ⟨rfl, rfl⟩
          by_cases hev : yy = 0
          · subst hev
            go_wp2_with fail
            refine (asks_any w w4 w1.heap.size p F s P B X ch V AA (3 * (i : Int)) who whom H4.out H3.out.2 (by omega) hw3 hm3).mono ?_
            rintro e w5 ⟨rfl, F5, s5, P5, h5, hi5, hb5⟩
            have hsp : ch = 0 ∨ (ch ≠ 0 ∧ (s5 who).ph ≠ 2) ∨ (ch ≠ 0 ∧ (s5 who).ph = 2 ∧ (s5 who).boundOf 1 = (one ch, true)) := by
              by_cases e1 : ch = 0
              · exact .inl e1
              · by_cases e2 : (s5 who).ph = 2
                · exact .inr (.inr ⟨e1, e2, by rcases hb5 with q | q; exact absurd e2 q; exact q e1⟩)
                · exact .inr (.inl ⟨e1, e2⟩)
            have cp := h5.pt who hw3 hw3
            have H5 := Lib.hid (And.intro h5 (show inv s5 P5 B X ch V AA (3 * ((i + 1 : Nat) : Int)) from by rw [show 3 * ((i + 1 : Nat) : Int) = 3 * (i : Int) + 3 by omega]; exact hi5))
            clear h5 hi5 hb5
            rcases hsp with h0 | ⟨h0, hph⟩ | ⟨h0, hph, hbd⟩
            · subst h0
              obtain ⟨c, has, hbd⟩ : ∃ c has, (s5 who).boundOf 1 = (c, has) := ⟨_, _, rfl⟩
              go_wp2_with fail
              refine (boundL_any (p who) (F5 who) (s5 who) 1 _ (H5.out.1.is who hw3)).mono ?_; intro e w6 hq
              rw [hbd] at hq
              obtain ⟨A6, n6, G6, rfl, hh6, hG6, hk6⟩ := boundNew hq
              have H6 := Lib.hid (H5.out.1.over (hk6.alloc (.cells #[.int .i64 c.num, .int .i64 c.full, .slice A6 c.chain.length n6] 55)))
              clear hq hh6 hG6 hk6 hbd
              go_wp2_with fail
              go_roundw
              case rel => exact ⟨i + 1, _, _, _, _, _, _, _, _, by omega, by omega, by go_num, H6.out, H5.out.2⟩
              case measure => simp [intOf]; omega
            · obtain ⟨c, has, hbd⟩ : ∃ c has, (s5 who).boundOf 1 = (c, has) := ⟨_, _, rfl⟩
              obtain ⟨ph, hphe⟩ : ∃ ph, (s5 who).ph = ph := ⟨_, rfl⟩
              rw [hphe] at hph
              go_wp2_with fail
              refine (boundL_any (p who) (F5 who) (s5 who) 1 _ (H5.out.1.is who hw3)).mono ?_; intro e w6 hq
              rw [hbd] at hq
              obtain ⟨A6, n6, G6, rfl, hh6, hG6, hk6⟩ := boundNew hq
              have h6 := H5.out.1.over (hk6.alloc (.cells #[.int .i64 c.num, .int .i64 c.full, .slice A6 c.chain.length n6] 55))
              have cp6 := h6.pt who hw3 hw3
              have H6 := Lib.hid h6
              clear hq hh6 hG6 hk6 hbd h6
              go_wp2_with fail
              refine (phaseL_any (p who) (F5 who) (s5 who) _ (H6.out.is who hw3)).mono ?_; rintro e w7 ⟨rfl, rfl⟩
              rw [hphe]
              go_wp2_with fail
              go_roundw
              case rel => exact ⟨i + 1, _, _, _, _, _, _, _, _, by omega, by omega, by go_num, H6.out, H5.out.2⟩
              case measure => simp [intOf]; omega
            · go_wp2_with fail
              refine (boundL_any (p who) (F5 who) (s5 who) 1 _ (H5.out.1.is who hw3)).mono ?_; intro e w6 hq
              rw [hbd] at hq
              obtain ⟨A6, n6, G6, he6, hh6, hG6, hk6⟩ := boundNew hq
              have he7 : e = .returned (.tuple #[.agg #[.int .i64 1, .int .i64 1, .slice A6 1 n6], .bool true]) := he6
              subst he7
              have hka := (keepBut.refl [] w6).alloc (.cells #[.int .i64 1, .int .i64 1, .slice A6 1 n6] 55)
              have h6 := H5.out.1.over (hk6.alloc (.cells #[.int .i64 1, .int .i64 1, .slice A6 1 n6] 55))
              have cp6 := h6.pt who hw3 hw3
              have hh7 : held (w6.alloc (.cells #[.int .i64 1, .int .i64 1, .slice A6 1 n6] 55)) G6 (.slice A6 1 n6) [ch] := hh6.keep hka (by simp)
              obtain ⟨-, hn6, gg, o6, x', rfl, hx', hcx⟩ := hh7.cell 0 (by simp)
              obtain rfl : ch = x' := by simpa using hx'
              have hcx0 : (w6.alloc (.cells #[.int .i64 1, .int .i64 1, .slice (some ⟨gg, o6, none⟩) 1 n6] 55)).cell? ⟨gg, o6, none⟩ = some (.int .i64 ch) := hcx
              have H6 := Lib.hid h6
              clear hq hh6 hG6 hk6 hbd h6 he6 hka hh7 hx' hcx
              go_wp2_with fail
              refine (phaseL_any (p who) (F5 who) (s5 who) _ (H6.out.is who hw3)).mono ?_; rintro e w7 ⟨rfl, rfl⟩
              rw [hph]
              go_wp2_with fail
              go_roundw
              case rel => exact ⟨i + 1, _, _, _, _, _, _, _, _, by omega, by omega, by go_num, H6.out, H5.out.2⟩
              case measure => simp [intOf]; omega
          · go_wp2_with fail
            refine (props_any w w4 w1.heap.size p F s P B X ch V AA (3 * (i : Int)) who whom H4.out H3.out.2 (by omega) hw3 hm3).mono ?_
            rintro e w5 ⟨rfl, F5, s5, P5, B5, X5, ch5, V5, AA5, h5, hi5⟩
            have H5 := Lib.hid (And.intro h5 (show inv s5 P5 B5 X5 ch5 V5 AA5 (3 * ((i + 1 : Nat) : Int)) from hi5.grow (by omega)))
            clear h5 hi5
            go_wp2_with fail
            go_roundw
            case rel => exact ⟨i + 1, _, _, _, _, _, _, _, _, by omega, by omega, by go_num, H5.out⟩
            case measure => simp [intOf]; omega
        · have hor : ¬ (i : Int) < (n : Int) ∨ ((i : Int) < (n : Int) ∧ ¬ (i : Int) < 80) := by omega
          have HK := Lib.hid h3.kept
          clear h3 hi3
          rcases hor with hor | ⟨hor, hor2⟩
          all_goals
            go_wp2_with fail
            go_ret
            exact ⟨rfl, HK.out⟩
end Go.Proofs.Ytbjonlfjfjlelaa
