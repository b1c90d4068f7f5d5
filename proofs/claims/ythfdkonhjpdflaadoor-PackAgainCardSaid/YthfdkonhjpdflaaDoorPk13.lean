/-
  PACK, 13: which lists of votes may be.
-/
import Derived.Test.YthfdkonhjpdflaaDoorPk12
namespace Go.Proofs.YthfdkonhjpdflaaDoor
open Go.RowKit
set_option linter.unusedVariables false
set_option maxRecDepth 100000

def VT.ok (v : VT) : Bool := inP v.ballot 1 9007199254740991 && v.conf.ok
def vtsB : List VT → Bool
  | [] => true
  | v :: r => v.ok && vtsB r
theorem vtsB_step {l : List VT} {i : Nat} {a : VT} (h : l[i]? = some a) : vtsB (l.drop i) = (a.ok && vtsB (l.drop (i + 1))) := by
  obtain ⟨hl, ha⟩ := List.getElem?_eq_some_iff.1 h
  rw [List.drop_eq_getElem_cons hl, ha]
  rfl
def vtsOk (l : List VT) : Bool := decide (l.length ≤ 8) && vtsB l
set_option maxHeartbeats 8000000 in
theorem checkVotes_any (F : List Nat) (l : List VT) (v : Value) (w : World) (h : votesV w F v l) :
    Calls Tryd.prog 50 #[v] w fun e w' => e = .returned (.int .i64 (toldP (vtsOk l))) ∧ keepBut [] w w' := by
  obtain ⟨A, c, gA, TA, rfl, _, hc, _⟩ := id h
  obtain ⟨L, hL⟩ : ∃ L, l.length = L := ⟨_, rfl⟩
  have hmx : L ≤ 9223372036854775807 := by unfold maxLen at hc; omega
  have HS0 := Lib.hid (show vtsOk l = (decide (l.length ≤ 8) && vtsB (l.drop 0)) from rfl)
  generalize vtsOk l = ok at *
  have HA := Lib.hid h
  rw [hL] at HA HS0 ⊢
  clear h
  by_cases e1 : (L : Int) > 8
  · have e1d := decide_eq_true e1
    have hn : ¬ L ≤ 8 := by omega
    have HS := Lib.hid (show ok = false by rw [HS0.out]; simp [hn])
    clear HS0
    go_enter Tryd.func50, Tryd.ntmps50
    go_wp2_with fail
    go_ret
    exact ⟨by rw [HS.out]; rfl, keepBut.refl _ _⟩
  · have e1d := decide_eq_false e1
    have hn : L ≤ 8 := by omega
    have HS := Lib.hid (show ok = vtsB (l.drop 0) by rw [HS0.out]; simp [hn])
    clear HS0
    go_enter Tryd.func50, Tryd.ntmps50
    go_wp2_with fail
    go_loopw [4, 10] (fun _ v10 wx => ∃ i : Nat, i ≤ L ∧ v10 = .int .i64 (i : Int) ∧ vtsB (l.drop 0) = vtsB (l.drop i) ∧ keepBut [] w wx) (fun _ v10 _ => L - (intOf v10).toNat)
    case atStart => exact ⟨0, by omega, rfl, rfl, keepBut.refl _ _⟩
    case round =>
      obtain ⟨i, hi, rfl, ht, hk⟩ := hrel
      by_cases hlt : i < L
      · have hlt' : (i : Int) < (L : Int) := by omega
        obtain ⟨a, ha⟩ : ∃ a, l[i]? = some a := ⟨_, List.getElem?_eq_getElem (by omega)⟩
        obtain ⟨g, o, cv, rfl, hgl, _, hcv, x0, x1, x2, x3⟩ := (HA.out.keep hk (by simp)).at ha
        have hw1 : IntKind.i64.wrap ((i : Int) + 1) = (i : Int) + 1 := wraps_i64 _ (by omega) (by omega)
        have hs := ht.trans (vtsB_step ha)
        have HR := Lib.hid (And.intro hs (And.intro hk hcv))
        clear ht hk ha hcv hs
        obtain ⟨ab, an, af, al⟩ := a
        dsimp only at x0 x1 x2 x3
        obtain ⟨CA, cc, cg, rfl, _⟩ := id HR.out.2.2
        dsimp only at x3
        go_upto_region 6 with fail
        have r1 := rowAt.new wr 69 #[.int .i64 ab, .int .i64 an, .int .i64 af, .slice CA al.length cc]
        have k1 := (keepBut.refl [] wr).alloc (.cells #[.int .i64 ab, .int .i64 an, .int .i64 af, .slice CA al.length cc] 69)
        obtain ⟨w1, hw1e⟩ : ∃ w1, wr.alloc (.cells #[.int .i64 ab, .int .i64 an, .int .i64 af, .slice CA al.length cc] 69) = w1 := ⟨_, rfl⟩
        rw [hw1e] at r1 k1 ⊢
        clear hw1e
        have p0 : w1.cell? ⟨wr.heap.size, 0, none⟩ = some (.int .i64 ab) := r1.cell 0
        have p1 : w1.cell? ⟨wr.heap.size, 1, none⟩ = some (.int .i64 an) := r1.cell 1
        have p2 : w1.cell? ⟨wr.heap.size, 2, none⟩ = some (.int .i64 af) := r1.cell 2
        have p3 : w1.cell? ⟨wr.heap.size, 3, none⟩ = some (.slice CA al.length cc) := r1.cell 3
        have HC := Lib.hid (checkConf_any F ⟨an, af, al⟩ _ w1 (HR.out.2.2.keep k1 (by simp)))
        have HK := Lib.hid (HR.out.2.1.then k1 (by simp))
        clear x0 x1 x2 x3 k1 r1
        rcases Bool.eq_false_or_eq_true (inP ab 1 9007199254740991) with c0 | c0
        · rcases Bool.eq_false_or_eq_true (CF.ok ⟨an, af, al⟩) with c1 | c1
          · rw [c1] at HC
            have HS2 := Lib.hid (show vtsB (l.drop 0) = vtsB (l.drop (i + 1)) by rw [HR.out.1]; simp [VT.ok, c0, c1])
            go_wp2_with (first
              | (go_at_call 90; refine (isPositive_any _ _).mono ?_; rintro e w' ⟨rfl, rfl⟩; rw [c0])
              | (go_at_call 49; refine HC.out.mono ?_; rintro e w' ⟨rfl, k3⟩; have HK3 := Lib.hid (HK.out.then k3 (by simp)); clear k3 p0 p1 p2 p3))
            go_roundw
            case rel => exact ⟨i + 1, by omega, by go_num, HS2.out, HK3.out⟩
            case measure => simp [intOf]; omega
          · rw [c1] at HC
            have HS2 := Lib.hid (show ok = false by rw [HS.out, HR.out.1]; simp [VT.ok, c0, c1])
            go_wp2_with (first
              | (go_at_call 90; refine (isPositive_any _ _).mono ?_; rintro e w' ⟨rfl, rfl⟩; rw [c0])
              | (go_at_call 49; refine HC.out.mono ?_; rintro e w' ⟨rfl, k3⟩; have HK3 := Lib.hid (HK.out.then k3 (by simp)); clear k3 p0 p1 p2 p3))
            go_ret
            exact ⟨by rw [HS2.out]; rfl, HK3.out⟩
        · have HS2 := Lib.hid (show ok = false by rw [HS.out, HR.out.1]; simp [VT.ok, c0])
          go_wp2_with (first
            | (go_at_call 90; refine (isPositive_any _ _).mono ?_; rintro e w' ⟨rfl, rfl⟩; rw [c0]))
          go_ret
          exact ⟨by rw [HS2.out]; rfl, HK.out⟩
      · obtain rfl : i = L := by omega
        have HS2 := Lib.hid (show ok = true by rw [HS.out, ht, ← hL, List.drop_length]; rfl)
        have HK := Lib.hid hk
        clear ht hk
        go_wp2_with fail
        go_ret
        exact ⟨by rw [HS2.out]; rfl, HK.out⟩
end Go.Proofs.YthfdkonhjpdflaaDoor
