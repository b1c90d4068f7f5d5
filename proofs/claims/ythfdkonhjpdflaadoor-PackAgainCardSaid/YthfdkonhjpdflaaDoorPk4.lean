/-
  PACK, 4: slices.Equal of numbers; configurations; votes.
-/
import Derived.Test.YthfdkonhjpdflaaDoorPk3
import Derived.BigQuiet
namespace Go.Proofs.YthfdkonhjpdflaaDoor
open Go.RowKit
set_option linter.unusedVariables false
set_option maxRecDepth 100000

theorem take_snoc_eq {l m : List Int} {k : Nat} {a b : Int} (ha : l[k]? = some a) (hb : m[k]? = some b) (h : l.take k = m.take k) (e : a = b) : l.take (k + 1) = m.take (k + 1) := by
  rw [List.take_add_one, List.take_add_one, ha, hb, h, e]
theorem take_ne {l m : List Int} {k : Nat} {a b : Int} (ha : l[k]? = some a) (hb : m[k]? = some b) (e : a ≠ b) : ¬ l = m := fun h => by
  subst h; rw [ha] at hb; injection hb with hb; exact e hb
set_option maxHeartbeats 2000000 in
theorem eqI_any (F G : List Nat) (l m : List Int) (v u : Value) (w : World) (h : intsV w F v l) (h' : intsV w G u m) :
    Calls Tryd.prog 91 #[v, u] w fun e w' => e = .returned (.bool (decide (l = m))) ∧ keepBut [] w w' := by
  obtain ⟨A, c, g, rfl, _, hc, hA, _⟩ := h
  obtain ⟨B, d, k, rfl, _, hd, hB, _⟩ := h'
  by_cases hlen : l.length = m.length
  · have hmx : l.length ≤ 9223372036854775807 := by unfold maxLen at hc; omega
    rw [← hlen] at hB ⊢
    have HA := Lib.hid (And.intro hA (And.intro hB hlen))
    clear hA hB hlen
    go_enter Tryd.func91, Tryd.ntmps91
    go_wp2
    go_loopw [5, 13] (fun _ v13 wx => ∃ i : Nat, i ≤ l.length ∧ v13 = .int .i64 (i : Int) ∧ l.take i = m.take i ∧ keepBut [] w wx) (fun _ v13 _ => l.length - (intOf v13).toNat)
    case atStart => exact ⟨0, by omega, rfl, rfl, keepBut.refl _ _⟩
    case round =>
      obtain ⟨i, hi, rfl, ht, hk⟩ := hrel
      by_cases hlt : i < l.length
      · have hlt' : (i : Int) < (l.length : Int) := by omega
        obtain ⟨a, ha⟩ : ∃ a, l[i]? = some a := ⟨_, List.getElem?_eq_getElem hlt⟩
        obtain ⟨b, hb⟩ : ∃ a, m[i]? = some a := ⟨_, List.getElem?_eq_getElem (by have := HA.out.2.2; omega)⟩
        obtain ⟨o, rfl, hgl, hcA⟩ := HA.out.1.2 (by omega)
        obtain ⟨p, rfl, hkl, hcB⟩ := HA.out.2.1.2 (by omega)
        have y0 := (hk.cell (p := ⟨g, o + i, none⟩) hgl (by simp)).trans (hcA i (.int .i64 a) (by rw [List.getElem?_map, ha]; rfl))
        have z0 := (hk.cell (p := ⟨k, p + i, none⟩) hkl (by simp)).trans (hcB i (.int .i64 b) (by rw [List.getElem?_map, hb]; rfl))
        have hw1 : IntKind.i64.wrap ((i : Int) + 1) = (i : Int) + 1 := wraps_i64 _ (by omega) (by omega)
        have HR := Lib.hid (And.intro ht (And.intro hk (And.intro ha hb)))
        have hne : a ≠ b → ¬ l = m := take_ne ha hb
        clear ht hk hcA hcB ha hb
        by_cases hab : a = b
        · subst hab
          clear hne
          go_upto_region 6 with fail
          go_quiet (fail)
          have HK := Lib.hid (HR.out.2.1.then ((keepBut.refl [] wr).drewN nq) (by simp))
          clear y0 z0
          go_wp2_with fail
          go_roundw
          case rel => exact ⟨i + 1, by omega, by go_num, take_snoc_eq HR.out.2.2.1 HR.out.2.2.2 HR.out.1 rfl, HK.out⟩
          case measure => simp [intOf]; omega
        · have hn := hne hab
          have hb1 : (a != b) = true := by simpa using hab
          have HD := Lib.hid (show decide (l = m) = false by simp [hn])
          clear hn hab hne
          go_upto_region 6 with fail
          go_quiet (fail)
          have HK := Lib.hid (HR.out.2.1.then ((keepBut.refl [] wr).drewN nq) (by simp))
          clear y0 z0
          go_wp2_with fail
          go_ret
          exact ⟨by rw [HD.out]; rfl, HK.out⟩
      · obtain rfl : i = l.length := by omega
        have heq : l = m := by rw [List.take_length, HA.out.2.2, List.take_length] at ht; exact ht
        have HD := Lib.hid (show decide (l = m) = true by simp [heq])
        have HK := Lib.hid hk
        clear heq ht hk
        go_wp2_with fail
        go_ret
        exact ⟨by rw [HD.out]; rfl, HK.out⟩
  · have HD := Lib.hid (show decide (l = m) = false by
      refine decide_eq_false (fun h => hlen ?_)
      rw [h])
    have hb1 : ((l.length : Int) != (m.length : Int)) = true := by simp; omega
    clear hA hB hlen
    go_enter Tryd.func91, Tryd.ntmps91
    go_wp2
    go_ret
    exact ⟨by rw [HD.out]; rfl, keepBut.refl _ _⟩
end Go.Proofs.YthfdkonhjpdflaaDoor
