/-
  DiskPlays: what a disk answers, call by call, is what the chapter says.
-/
import Derived.Test.YtbjonlfjfjlelaaDiskStep
import Derived.Test.YtbjonlfjfjlelaaDiskSame
import Derived.Test.YtbjonlfjfjlelaaDos
namespace Go.Proofs.Ytbjonlfjfjlelaa
open Go.RowKit
set_option linter.unusedVariables false
set_option maxRecDepth 100000

def playRel (w : World) (p q n : Nat) (v5 : Value) (wx : World) : Prop :=
  ∃ (i : Nat) (F G : List Nat) (d : DS), i ≤ n ∧ i ≤ 80 ∧ v5 = .int .i64 (i : Int) ∧ both w wx p F q G d ∧ inD d i

set_option maxHeartbeats 4000000 in
theorem diskPlays_walk (A : Option Addr) (n d : Nat) (w : World) (ps : dos w A n) (hnd : n ≤ d) (hd : d ≤ maxLen) :
    Calls Try.prog 3 #[.slice A n d] w (yesPost w) := by
  unfold maxLen at hd
  have HPS := Lib.hid ps
  clear ps
  go_enter Try.func3, Try.ntmps3
  go_wp2_with fail
  refine (newD_any _).mono ?_; intro e w1 hq; obtain ⟨p, F0, rfl, h1⟩ := dOn.start (keepBut.refl [] w) hq
  have H1 := Lib.hid h1
  clear hq h1
  go_wp2_with fail
  refine (newR_any _).mono ?_; intro e w2 hq; obtain ⟨q, G0, rfl, h2, hk2, hG2⟩ := hq
  have hB : both w w2 p F0 q G0 DS.new := ⟨H1.out.over hk2, h2, fun y hy => Nat.le_trans H1.out.2.2.size (hG2 y hy), fun y hy hm => by
    have := H1.out.1.lt y hy
    have := hG2 y hm
    omega⟩
  have H2 := Lib.hid hB
  clear hB h2 hk2 hG2
  go_wp2_with fail
  go_loopw [5] (fun v5 wx => playRel w p q n v5 wx) (fun v5 _ => n - (intOf v5).toNat)
  case atStart => exact ⟨0, _, _, _, by omega, by omega, rfl, H2.out, inD.new⟩
  case round =>
    obtain ⟨i, F, G, dd, hi, hi80, rfl, hB, hin⟩ := hrel
    clear H2 H1
    have HB := Lib.hid (And.intro hB hin)
    clear hB hin
    by_cases hlt : i < n ∧ i < 80
    · obtain ⟨hlt1, hlt2⟩ := hlt
      have hlt1' : (i : Int) < (n : Int) := by omega
      have hlt2' : (i : Int) < 80 := by omega
      obtain ⟨gA, o, rfl, hgA, hall⟩ := HPS.out (by omega)
      obtain ⟨x0, x1, x2, A3, h3, c3, l3, e0, e1, e2, e3, q0, q1, a3, b3, s3, z3⟩ := hall i hlt1
      have hkw := HB.out.1.1.2.2
      have hkc := fun z => hkw.cell (p := ⟨gA, z, none⟩) hgA (by simp)
      rw [← hkc] at e0 e1 e2 e3
      have q0' : -9223372036854775808 ≤ x0 ∧ x0 ≤ 9223372036854775807 := by simpa [Lit.wf, IntKind.min, IntKind.max, IntKind.signed, IntKind.bits] using q0
      have q1' : -9223372036854775808 ≤ x1 ∧ x1 ≤ 9223372036854775807 := by simpa [Lit.wf, IntKind.min, IntKind.max, IntKind.signed, IntKind.bits] using q1
      have hs3 := s3.keep hkw (by simp)
      have hne3 : l3 ≠ [] → h3 ∉ F ∧ h3 ∉ G := fun hne => by
        have h := z3 hne
        exact ⟨fun hm => by have := HB.out.1.1.2.1 h3 hm; omega, fun hm => by have := HB.out.1.2.2.1 h3 hm; omega⟩
      have HC := Lib.hid (stepL_any w wr p F q G dd i x0 x1 x2 A3 h3 c3 l3 HB.out.1 HB.out.2 hi80 q0' q1' a3 b3 hs3 hne3)
      clear hkc hkw q0 q1 a3 b3 s3 z3 hs3 hne3 hall
      go_wp2_with fail
      refine HC.out.mono ?_; rintro e w3 ⟨rfl, F', G', d', hB3, hin3⟩
      have H3 := Lib.hid (And.intro hB3 hin3)
      clear HC hB3 hin3
      go_wp2_with fail
      refine (sameL_any w w3 p F' q G' d' (i + 1) H3.out.1 H3.out.2 (by omega)).mono ?_; rintro e w4 ⟨rfl, hB4⟩
      have H4 := Lib.hid hB4
      clear hB4
      go_wp2_with fail
      go_roundw
      case rel => exact ⟨i + 1, F', G', d', by omega, by omega, by go_num, H4.out, H3.out.2⟩
      case measure => simp [intOf]; omega
    · have hor : ¬ (i : Int) < (n : Int) ∨ ((i : Int) < (n : Int) ∧ ¬ (i : Int) < 80) := by omega
      rcases hor with hor | ⟨hor, hor2⟩
      all_goals
        go_wp2_with fail
        refine (sameL_any w wr p F q G dd i HB.out.1 HB.out.2 (by omega)).mono ?_; rintro e w4 ⟨rfl, hB4⟩
        have H4 := Lib.hid hB4
        clear hB4
        go_wp2_with fail
        refine (works_any _).mono ?_; rintro e w5 ⟨rfl, hk5⟩
        have HK := Lib.hid (H4.out.1.2.2.then hk5 (by simp))
        clear hk5
        go_wp2_with fail
        go_ret
        exact ⟨rfl, HK.out⟩
end Go.Proofs.Ytbjonlfjfjlelaa
