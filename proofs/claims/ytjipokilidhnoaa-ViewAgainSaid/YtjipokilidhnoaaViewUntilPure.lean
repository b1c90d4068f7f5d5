/-
  VIEW: ViewUntil, what it says of rows alone.
-/
import Derived.Test.YtjipokilidhnoaaViewMade
namespace Go.Proofs.Ytjipokilidhnoaa
open Go.RowKit
set_option linter.unusedVariables false
set_option maxRecDepth 100000

theorem sameV_self (r : VR) : sameV r r = true := (sameV_iff r r).2 rfl
theorem firstAt_self : ∀ (l : List VR) (k : Nat), firstAt l l k = -1
  | [], _ => rfl
  | a :: l, k => by unfold firstAt; rw [sameV_self]; exact firstAt_self l (k + 1)
theorem firstAt_take : ∀ (l : List VR) (n k : Nat), n < l.length → firstAt l (l.take n) k = ((k + n : Nat) : Int)
  | a :: l, 0, k, _ => rfl
  | a :: l, n + 1, k, h => by
    rw [List.take_succ_cons]
    unfold firstAt
    rw [sameV_self, if_pos rfl, firstAt_take l n (k + 1) (by simpa using h)]
    congr 1
    omega
def sortedV (L : List VR) : Prop := ∀ (i j : Nat) (a b : VR), i ≤ j → L[i]? = some a → L[j]? = some b → a.step ≤ b.step
theorem filter_none {L : List VR} {st : Int} (h : ∀ (i : Nat) (r : VR), L[i]? = some r → st < r.step) : L.filter (fun r => decide (r.step ≤ st)) = [] := by
  rw [List.filter_eq_nil_iff]
  intro r hr
  obtain ⟨i, hi⟩ := List.getElem?_of_mem hr
  have := h i r hi
  simp only [decide_eq_true_eq]
  omega
theorem filter_take (st : Int) : ∀ (L : List VR), sortedV L → ∃ n, n ≤ L.length ∧ L.filter (fun r => decide (r.step ≤ st)) = L.take n ∧ (∀ (i : Nat) (r : VR), i < n → L[i]? = some r → r.step ≤ st) ∧ (∀ (i : Nat) (r : VR), n ≤ i → L[i]? = some r → st < r.step)
  | [], _ => ⟨0, by simp, rfl, fun i r h => by omega, fun i r _ h => by simp at h⟩
  | a :: L, hs => by
    by_cases ha : a.step ≤ st
    · obtain ⟨n, h1, h2, h3, h4⟩ := filter_take st L (fun i j x y h hx hy => hs (i + 1) (j + 1) x y (by omega) (by simpa using hx) (by simpa using hy))
      refine ⟨n + 1, by simpa using h1, ?_, fun i r hi hr => ?_, fun i r hi hr => ?_⟩
      · rw [List.filter_cons, if_pos (by simpa using ha), h2, List.take_succ_cons]
      · cases i with
        | zero => simp at hr; subst hr; exact ha
        | succ i => exact h3 i r (by omega) (by simpa using hr)
      · cases i with
        | zero => omega
        | succ i => exact h4 i r (by omega) (by simpa using hr)
    · have hall : ∀ (i : Nat) (r : VR), (a :: L)[i]? = some r → st < r.step := fun i r hr => by have := hs 0 i a r (by omega) rfl hr; omega
      exact ⟨0, by omega, filter_none hall, fun i r h => by omega, fun i r _ hr => hall i r hr⟩
theorem stTo_mono {l : List SD} {i : Nat} : ∀ {j : Nat}, i ≤ j → stTo l i ≤ stTo l j
  | 0, h => by obtain rfl : i = 0 := by omega
               exact Int.le_refl _
  | j + 1, h => by
    by_cases e : i = j + 1
    · subst e; exact Int.le_refl _
    · have h1 := stTo_mono (l := l) (i := i) (j := j) (by omega)
      cases hd : l[j]? with
      | none =>
        have e : stTo l (j + 1) = stTo l j := by show (match l[j]? with | some d => stTo l j + d.on % 3 | none => stTo l j) = _; rw [hd]
        rw [e]; exact h1
      | some d => rw [stTo_at hd]; have := Int.emod_nonneg d.on (show (3 : Int) ≠ 0 by omega); omega
theorem mdTo_row {l : List SD} {k i : Nat} {r : VR} (hk : k ≤ l.length) (hr : (mdTo l k)[i]? = some r) : ∃ d, l[i]? = some d ∧ i < k ∧ r = sdRow (stTo l (i + 1)) d := by
  have hi : i < k := by have := (List.getElem?_eq_some_iff.1 hr).1; rw [mdTo_len hk] at this; exact this
  obtain ⟨d, hd⟩ := sd_at (l := l) (k := i) (by omega)
  rw [mdTo_get hi hk hd] at hr
  injection hr with hr
  exact ⟨d, hd, hi, hr.symm⟩
theorem mdTo_sorted {l : List SD} {k : Nat} (hk : k ≤ l.length) : sortedV (mdTo l k) := fun i j a b hij ha hb => by
  obtain ⟨d, hd, hi, rfl⟩ := mdTo_row hk ha
  obtain ⟨d', hd', hj, rfl⟩ := mdTo_row hk hb
  exact stTo_mono (by omega)
theorem mdTo_nonneg {l : List SD} {k : Nat} (hk : k ≤ l.length) : ∀ (i : Nat) (r : VR), (mdTo l k)[i]? = some r → 0 ≤ r.step := fun i r hr => by
  obtain ⟨d, hd, hi, rfl⟩ := mdTo_row hk hr
  exact (stTo_bounds l (i + 1)).1
end Go.Proofs.Ytjipokilidhnoaa
