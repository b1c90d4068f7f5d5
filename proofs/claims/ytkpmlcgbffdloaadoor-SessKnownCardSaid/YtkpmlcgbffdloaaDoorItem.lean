/-
  ITEM: packets and their cells one behind another (as in Net1), for seats without package pack: over Api.
-/
import Derived.Test.YtkpmlcgbffdloaaDoorApi
import Derived.Test.YtkpmlcgbffdloaaDoorOwnO
namespace Go.Proofs.YtkpmlcgbffdloaaDoor
open Go.RowKit
set_option linter.unusedVariables false
set_option maxRecDepth 100000

/-- a packet, and its cells -/
structure itemV (w : World) (F : List Nat) (t : PK × List Value) : Prop where
  got : ∃ ev av cv vv bw, t.2 = pkL t.1 ev av cv vv bw ∧ pkV w F t.1 ev av cv vv bw
theorem itemV.keep {S F : List Nat} {w w' : World} {t : PK × List Value} (h : itemV w F t) (hk : keepBut S w w') (hS : ∀ y ∈ F, y ∉ S) : itemV w' F t := by
  obtain ⟨ev, av, cv, vv, bw, h1, h2⟩ := h
  exact ⟨ev, av, cv, vv, bw, h1, h2.keep hk hS⟩
theorem itemV.more {F G : List Nat} {w : World} {t : PK × List Value} (h : itemV w F t) (hF : ∀ y ∈ F, y ∈ G) : itemV w G t := by
  obtain ⟨ev, av, cv, vv, bw, h1, h2⟩ := h
  exact ⟨ev, av, cv, vv, bw, h1, h2.more hF⟩
theorem itemV.len {F : List Nat} {w : World} {t : PK × List Value} (h : itemV w F t) : t.2.length = 87 := by
  obtain ⟨ev, av, cv, vv, bw, h1, h2⟩ := h
  rw [h1]; exact pkL_len h2.rn h2.an
def flatP : List (PK × List Value) → List Value
  | [] => []
  | t :: r => t.2 ++ flatP r
theorem flatP_append : ∀ T U : List (PK × List Value), flatP (T ++ U) = flatP T ++ flatP U
  | [], _ => rfl
  | t :: r, U => by simp [flatP, flatP_append r U]
theorem flatP_len : ∀ T : List (PK × List Value), (∀ t ∈ T, t.2.length = 87) → (flatP T).length = T.length * 87
  | [], _ => rfl
  | t :: r, h => by simp [flatP, flatP_len r (fun x hx => h x (by simp [hx])), h t (by simp)]; omega
theorem flatP_at : ∀ (T : List (PK × List Value)) (i : Nat) (t : PK × List Value), (∀ t ∈ T, t.2.length = 87) → T[i]? = some t → ∀ j u, t.2[j]? = some u → (flatP T)[i * 87 + j]? = some u
  | [], i, t, _, h, j, u, hu => by simp at h
  | a :: r, 0, t, hl, h, j, u, hu => by
    simp at h
    subst h
    show (a.2 ++ flatP r)[0 * 87 + j]? = some u
    rw [show 0 * 87 + j = j by omega, List.getElem?_append_left (List.getElem?_eq_some_iff.1 hu).1]
    exact hu
  | a :: r, i + 1, t, hl, h, j, u, hu => by
    have := flatP_at r i t (fun x hx => hl x (by simp [hx])) (by simpa using h) j u hu
    have ha := hl a (by simp)
    show (a.2 ++ flatP r)[(i + 1) * 87 + j]? = some u
    rw [List.getElem?_append_right (by omega), show (i + 1) * 87 + j - a.2.length = i * 87 + j by omega]
    exact this
end Go.Proofs.YtkpmlcgbffdloaaDoor
