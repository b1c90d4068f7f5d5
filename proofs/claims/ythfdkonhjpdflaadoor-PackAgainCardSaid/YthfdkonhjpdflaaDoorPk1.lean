/-
  PACK, 1: what numbers may be; the table of fields.
-/
import Derived.Test.YthfdkonhjpdflaaDoorEqB
import Derived.Test.YthfdkonhjpdflaaDoorBring
import Derived.Laws.Cover1
import Derived.Deep.RegionHeld3
import Derived.Deep.CutBlock
import Derived.Deep.DeepCutAuto
import Derived.BigRegion
import Derived.Outline
import Derived.Lib.Hide
import Derived.Handy
namespace Go.Proofs.YthfdkonhjpdflaaDoor
open Go.RowKit
set_option linter.unusedVariables false
set_option maxRecDepth 100000

def inP (n lo hi : Int) : Bool := decide (lo ≤ n) && decide (n ≤ hi)
theorem inP_yes {n lo hi : Int} (h : lo ≤ n ∧ n ≤ hi) : inP n lo hi = true := by unfold inP; simp [h.1, h.2]
theorem inP_no {n lo hi : Int} (h : ¬ (lo ≤ n ∧ n ≤ hi)) : inP n lo hi = false := by
  cases e : inP n lo hi with
  | false => rfl
  | true => exact absurd (by simpa [inP] using e) h
theorem inP_iff {n lo hi : Int} : inP n lo hi = true ↔ lo ≤ n ∧ n ≤ hi := by simp [inP]
def mxI : Int := 9007199254740991
def nodeP (n : Int) : Bool := inP n 0 2 || (inP n 10 13 || inP n 20 22)
def seqP (kind seq : Int) : Bool := inP seq (if kind = 5 then -1 else 0) 9007199254740990
def toldP (b : Bool) : Int := if b then 0 else 2
/-- the fields of each kind -/
def fieldsT : Nat → Int
  | 0 => 0 | 1 => 16 | 2 => 32 | 3 => 19 | 4 => 3 | 5 => 3 | 6 => 259 | 7 => 64 | 8 => 9 | 9 => 1024 | 10 => 6 | 11 => 134 | 12 => 70 | 13 => 6 | _ => 4
def fieldsP (k : Int) : Int := if 0 ≤ k ∧ k ≤ 14 then fieldsT k.toNat else 0
def fieldsAt (w : World) : Prop := ∀ k : Nat, k < 15 → w.cell? ⟨0, k, none⟩ = some (.int .i64 (fieldsT k))
theorem fieldsAt.keep {S : List Nat} {w w' : World} (h : fieldsAt w) (hk : keepBut S w w') (hS : 0 ∉ S) : fieldsAt w' := fun k hk' => by
  have h1 := h k hk'
  exact (hk.cell (p := ⟨0, k, none⟩) (World.block_lt_of_cell? w _ h1) hS).trans h1

set_option maxHeartbeats 400000 in
theorem isMaster_any (n : Int) (w : World) : Calls Tryd.prog 80 #[.int .i64 n] w fun e w' => e = .returned (.bool (inP n 0 2)) ∧ w = w' := by
  go_enter Tryd.func80, Tryd.ntmps80
  by_cases a : 0 ≤ n
  · by_cases b : n < 3
    · go_wp2
      go_ret
      exact ⟨by rw [inP_yes (by omega)]; rfl, rfl⟩
    · go_wp2
      go_ret
      exact ⟨by rw [inP_no (by omega)]; rfl, rfl⟩
  · go_wp2
    go_ret
    exact ⟨by rw [inP_no (by omega)]; rfl, rfl⟩
set_option maxHeartbeats 400000 in
theorem isReplica_any (n : Int) (w : World) : Calls Tryd.prog 81 #[.int .i64 n] w fun e w' => e = .returned (.bool (inP n 10 13)) ∧ w = w' := by
  go_enter Tryd.func81, Tryd.ntmps81
  by_cases a : 10 ≤ n
  · by_cases b : n < 14
    · go_wp2
      go_ret
      exact ⟨by rw [inP_yes (by omega)]; rfl, rfl⟩
    · go_wp2
      go_ret
      exact ⟨by rw [inP_no (by omega)]; rfl, rfl⟩
  · go_wp2
    go_ret
    exact ⟨by rw [inP_no (by omega)]; rfl, rfl⟩
set_option maxHeartbeats 400000 in
theorem isClient_any (n : Int) (w : World) : Calls Tryd.prog 82 #[.int .i64 n] w fun e w' => e = .returned (.bool (inP n 0 2)) ∧ w = w' := by
  go_enter Tryd.func82, Tryd.ntmps82
  by_cases a : 0 ≤ n
  · by_cases b : n < 3
    · go_wp2
      go_ret
      exact ⟨by rw [inP_yes (by omega)]; rfl, rfl⟩
    · go_wp2
      go_ret
      exact ⟨by rw [inP_no (by omega)]; rfl, rfl⟩
  · go_wp2
    go_ret
    exact ⟨by rw [inP_no (by omega)]; rfl, rfl⟩
set_option maxHeartbeats 400000 in
theorem isNumber_any (n : Int) (w : World) : Calls Tryd.prog 45 #[.int .i64 n] w fun e w' => e = .returned (.bool (inP n 0 9007199254740991)) ∧ w = w' := by
  go_enter Tryd.func45, Tryd.ntmps45
  by_cases a : 0 ≤ n
  · by_cases b : n ≤ 9007199254740991
    · go_wp2
      go_ret
      exact ⟨by rw [inP_yes (by omega)]; rfl, rfl⟩
    · go_wp2
      go_ret
      exact ⟨by rw [inP_no (by omega)]; rfl, rfl⟩
  · go_wp2
    go_ret
    exact ⟨by rw [inP_no (by omega)]; rfl, rfl⟩
set_option maxHeartbeats 400000 in
theorem isPositive_any (n : Int) (w : World) : Calls Tryd.prog 90 #[.int .i64 n] w fun e w' => e = .returned (.bool (inP n 1 9007199254740991)) ∧ w = w' := by
  go_enter Tryd.func90, Tryd.ntmps90
  by_cases a : 1 ≤ n
  · by_cases b : n ≤ 9007199254740991
    · go_wp2
      go_ret
      exact ⟨by rw [inP_yes (by omega)]; rfl, rfl⟩
    · go_wp2
      go_ret
      exact ⟨by rw [inP_no (by omega)]; rfl, rfl⟩
  · go_wp2
    go_ret
    exact ⟨by rw [inP_no (by omega)]; rfl, rfl⟩
set_option maxHeartbeats 1000000 in
theorem isNode_any (n : Int) (hn : -9223372036854775808 ≤ n) (hn' : n ≤ 9223372036854775807) (w : World) : Calls Tryd.prog 43 #[.int .i64 n] w fun e w' => e = .returned (.bool (nodeP n)) ∧ w = w' := by
  by_cases a : 0 ≤ n ∧ n ≤ 2
  · have h : nodeP n = true := by unfold nodeP; rw [inP_yes a]; rfl
    have H := Lib.hid h
    have ha := inP_yes a
    clear h
    go_enter Tryd.func43, Tryd.ntmps43
    go_wp2_with fail
    refine (isMaster_any n _).mono ?_; rintro e w' ⟨rfl, rfl⟩
    rw [ha]
    go_wp2_with fail
    go_ret
    exact ⟨by rw [H.out]; rfl, rfl⟩
  · have ha := inP_no a
    by_cases b : 10 ≤ n ∧ n ≤ 13
    · have hb := inP_yes b
      have h : nodeP n = true := by unfold nodeP; rw [ha, hb]; rfl
      have H := Lib.hid h
      clear h
      go_enter Tryd.func43, Tryd.ntmps43
      go_wp2_with fail
      refine (isMaster_any n _).mono ?_; rintro e w' ⟨rfl, rfl⟩
      rw [ha]
      go_wp2_with fail
      refine (isReplica_any n _).mono ?_; rintro e w' ⟨rfl, rfl⟩
      rw [hb]
      go_wp2_with fail
      go_ret
      exact ⟨by rw [H.out]; rfl, rfl⟩
    · have hb := inP_no b
      have h : nodeP n = inP (wrap64 (n - 20)) 0 2 := by
        unfold nodeP
        rw [ha, hb]
        by_cases c : 20 ≤ n ∧ n ≤ 22
        · rw [inP_yes c, inP_yes (by unfold wrap64; omega)]; rfl
        · rw [inP_no c, inP_no (by unfold wrap64; omega)]; rfl
      have H := Lib.hid h
      clear h
      go_enter Tryd.func43, Tryd.ntmps43
      go_wp2_with fail
      refine (isMaster_any n _).mono ?_; rintro e w' ⟨rfl, rfl⟩
      rw [ha]
      go_wp2_with fail
      refine (isReplica_any n _).mono ?_; rintro e w' ⟨rfl, rfl⟩
      rw [hb]
      go_wp2_with fail
      refine (isClient_any _ _).mono ?_; rintro e w' ⟨rfl, rfl⟩
      go_wp2_with fail
      go_ret
      exact ⟨by rw [H.out]; rfl, rfl⟩
set_option maxHeartbeats 400000 in
theorem told_any (b : Bool) (w : World) : Calls Tryd.prog 51 #[.bool b] w fun e w' => e = .returned (.int .i64 (toldP b)) ∧ w = w' := by
  cases b
  all_goals
    go_enter Tryd.func51, Tryd.ntmps51
    go_wp2
    go_ret
    exact ⟨rfl, rfl⟩
set_option maxHeartbeats 400000 in
theorem isSeq_any (k n : Int) (w : World) : Calls Tryd.prog 46 #[.int .i64 k, .int .i64 n] w fun e w' => e = .returned (.bool (seqP k n)) ∧ w = w' := by
  by_cases c : k = 5
  · subst c
    have h : seqP 5 n = inP n (-1) 9007199254740990 := rfl
    by_cases a : -1 ≤ n
    · by_cases b : n < 9007199254740991
      · have H := Lib.hid (h.trans (inP_yes ⟨a, by omega⟩))
        clear h
        go_enter Tryd.func46, Tryd.ntmps46
        go_wp2
        go_ret
        exact ⟨by rw [H.out]; rfl, rfl⟩
      · have H := Lib.hid (h.trans (inP_no (by omega)))
        clear h
        go_enter Tryd.func46, Tryd.ntmps46
        go_wp2
        go_ret
        exact ⟨by rw [H.out]; rfl, rfl⟩
    · have H := Lib.hid (h.trans (inP_no (by omega)))
      clear h
      go_enter Tryd.func46, Tryd.ntmps46
      go_wp2
      go_ret
      exact ⟨by rw [H.out]; rfl, rfl⟩
  · have h : seqP k n = inP n 0 9007199254740990 := by unfold seqP; rw [if_neg c]
    by_cases a : 0 ≤ n
    · by_cases b : n < 9007199254740991
      · have H := Lib.hid (h.trans (inP_yes ⟨a, by omega⟩))
        clear h
        go_enter Tryd.func46, Tryd.ntmps46
        go_wp2
        go_ret
        exact ⟨by rw [H.out]; rfl, rfl⟩
      · have H := Lib.hid (h.trans (inP_no (by omega)))
        clear h
        go_enter Tryd.func46, Tryd.ntmps46
        go_wp2
        go_ret
        exact ⟨by rw [H.out]; rfl, rfl⟩
    · have H := Lib.hid (h.trans (inP_no (by omega)))
      clear h
      go_enter Tryd.func46, Tryd.ntmps46
      go_wp2
      go_ret
      exact ⟨by rw [H.out]; rfl, rfl⟩
set_option maxHeartbeats 400000 in
theorem fieldsOf_any (k : Int) (w : World) (h : fieldsAt w) : Calls Tryd.prog 27 #[.int .i64 k] w fun e w' => e = .returned (.int .i64 (fieldsP k)) ∧ w = w' := by
  by_cases a : 0 ≤ k
  · by_cases b : k ≤ 14
    · obtain ⟨n, rfl⟩ : ∃ n : Nat, k = (n : Int) := ⟨k.toNat, by omega⟩
      have hc := h n (by omega)
      have hn15 : (n : Int) < 15 := by omega
      have H := Lib.hid (show fieldsP (n : Int) = fieldsT n by unfold fieldsP; rw [if_pos ⟨a, b⟩]; rfl)
      clear h
      go_enter Tryd.func27, Tryd.ntmps27
      go_wp2
      go_ret
      exact ⟨by rw [H.out]; rfl, rfl⟩
    · have H := Lib.hid (show fieldsP k = 0 by unfold fieldsP; rw [if_neg (by omega)])
      clear h
      go_enter Tryd.func27, Tryd.ntmps27
      go_wp2
      go_ret
      exact ⟨by rw [H.out]; rfl, rfl⟩
  · have H := Lib.hid (show fieldsP k = 0 by unfold fieldsP; rw [if_neg (by omega)])
    clear h
    go_enter Tryd.func27, Tryd.ntmps27
    go_wp2
    go_ret
    exact ⟨by rw [H.out]; rfl, rfl⟩
end Go.Proofs.YthfdkonhjpdflaaDoor
