/-
  VIEW: ViewNodes, what it says of rows alone.
-/
import Derived.Test.YtjipokilidhnoaaViewUntilPure
namespace Go.Proofs.Ytjipokilidhnoaa
open Go.RowKit
set_option linter.unusedVariables false
set_option maxRecDepth 100000

def nodeN (k : Nat) : Nat := if k < 3 then k else k + 7
theorem nodeAt_N (k : Nat) : nodeAt k = (nodeN k : Int) := by unfold nodeAt nodeN; split <;> simp
theorem nodeN_lt {k : Nat} (h : k < 7) : nodeN k < 14 := by unfold nodeN; split <;> omega
theorem nodeN_inj {k j : Nat} (h : nodeN k = nodeN j) : k = j := by unfold nodeN at h; split at h <;> split at h <;> omega
theorem nodeAt_inj {k j : Nat} (h : nodeAt k = nodeAt j) : k = j := nodeN_inj (by rw [nodeAt_N, nodeAt_N] at h; omega)
def cntN (k : Nat) (L : List VR) : Nat := (L.filter (fun r => r.node == nodeAt k)).length
theorem cntN_add (k : Nat) (L : List VR) (r : VR) : cntN k (L ++ [r]) = cntN k L + if r.node = nodeAt k then 1 else 0 := by
  unfold cntN
  rw [List.filter_append, List.length_append]
  by_cases h : r.node = nodeAt k
  · simp [h]
  · simp [h]
theorem cntN_cons (k : Nat) (L : List VR) (r : VR) : cntN k (r :: L) = cntN k L + if r.node = nodeAt k then 1 else 0 := by
  unfold cntN
  rw [List.filter_cons]
  by_cases h : r.node = nodeAt k
  · simp [h]
  · simp [h]
theorem cntN_le (k : Nat) (L : List VR) : cntN k L ≤ L.length := List.length_filter_le _ _
def sumN (L : List VR) : Nat → Nat
  | 0 => 0
  | i + 1 => sumN L i + cntN i L
theorem sumN_cons (L : List VR) (r : VR) {j : Nat} (hj : r.node = nodeAt j) : ∀ i : Nat, sumN (r :: L) i = sumN L i + if j < i then 1 else 0
  | 0 => rfl
  | i + 1 => by
    show sumN (r :: L) i + cntN i (r :: L) = sumN L i + cntN i L + _
    rw [sumN_cons L r hj i, cntN_cons]
    by_cases e : j = i
    · subst e
      rw [if_pos hj, if_neg (by omega), if_pos (by omega)]
      omega
    · rw [if_neg (c := r.node = nodeAt i) (fun h => e (nodeAt_inj (hj.symm.trans h)))]
      by_cases h : j < i
      · rw [if_pos h, if_pos (by omega)]; omega
      · rw [if_neg h, if_neg (by omega)]; omega
theorem sumN_all : ∀ (L : List VR), (∀ r ∈ L, ∃ k, k < 7 ∧ r.node = nodeAt k) → sumN L 7 = L.length
  | [], _ => rfl
  | r :: L, h => by
    obtain ⟨j, hj, e⟩ := h r (by simp)
    rw [sumN_cons L r e, sumN_all L (fun x hx => h x (by simp [hx])), if_pos hj]
    rfl
theorem sumN_le (L : List VR) : ∀ i, sumN L i ≤ i * L.length
  | 0 => by simp [sumN]
  | i + 1 => by
    have h1 := sumN_le L i
    have h2 := cntN_le i L
    show sumN L i + cntN i L ≤ _
    rw [Nat.add_mul, Nat.one_mul]
    omega
theorem kinds_all : ∀ (M : List VR), (∀ r ∈ M, 1 ≤ r.kind ∧ r.kind ≤ 3) → manyC 1 M + manyC 2 M + manyC 3 M = M.length
  | [], _ => rfl
  | r :: M, h => by
    have h1 := kinds_all M (fun x hx => h x (by simp [hx]))
    have h2 := h r (by simp)
    have c : ∀ k : Int, manyC k (r :: M) = manyC k M + if r.kind = k then 1 else 0 := fun k => by
      unfold manyC
      rw [List.filter_cons]
      by_cases e : r.kind = k <;> simp [e]
    rw [c, c, c, List.length_cons]
    have e : r.kind = 1 ∨ r.kind = 2 ∨ r.kind = 3 := by omega
    rcases e with e | e | e <;> rw [e] <;> simp <;> omega
theorem filter_at {α : Type} (f : α → Bool) : ∀ (L : List α) (i : Nat) (r : α), L[i]? = some r → f r = true → (L.filter f)[((L.take i).filter f).length]? = some r
  | a :: L, 0, r, h, hf => by
    simp at h
    subst h
    rw [List.filter_cons, if_pos hf]
    rfl
  | a :: L, i + 1, r, h, hf => by
    have h1 := filter_at f L i r (by simpa using h) hf
    rw [List.take_succ_cons, List.filter_cons, List.filter_cons]
    by_cases e : f a = true
    · rw [if_pos e, if_pos e]
      simpa using h1
    · rw [if_neg e, if_neg e]
      exact h1
theorem mdTo_nodes {l : List SD} {k : Nat} (hk : k ≤ l.length) : ∀ r ∈ mdTo l k, ∃ j, j < 7 ∧ r.node = nodeAt j := fun r hr => by
  obtain ⟨i, hi⟩ := List.getElem?_of_mem hr
  obtain ⟨d, hd, _, rfl⟩ := mdTo_row hk hi
  obtain ⟨j, hj, _, e⟩ := sdRow_node (st := stTo l (i + 1)) (d := d)
  exact ⟨j, hj, e⟩
theorem mdTo_kinds {l : List SD} {k : Nat} (hk : k ≤ l.length) : ∀ r ∈ mdTo l k, 1 ≤ r.kind ∧ r.kind ≤ 3 := fun r hr => by
  obtain ⟨i, hi⟩ := List.getElem?_of_mem hr
  obtain ⟨d, hd, _, rfl⟩ := mdTo_row hk hi
  exact sdRow_kind
end Go.Proofs.Ytjipokilidhnoaa
