/-
  NET, 1: a net and its packets; what its simple methods do.
-/
import Derived.Test.YtcnlnkkdcofphaaDoorPk16
import Derived.Test.YtcnlnkkdcofphaaDoorPkD
import Derived.Test.YtcnlnkkdcofphaaDoorOwnO
namespace Go.Proofs.YtcnlnkkdcofphaaDoor
open Go.RowKit
set_option linter.unusedVariables false
set_option maxRecDepth 100000

/-- a packet, and its cells -/
structure itemV (w : World) (F : List Nat) (t : PK × List Value) : Prop where
  got : ∃ ev av cv vv bw, t.2 = pkL t.1 ev av cv vv bw ∧ pkV w F t.1 ev av cv vv bw
theorem itemV.keep {S F : List Nat} {w w' : World} {t : PK × List Value} (h : itemV w F t) (hk : keepBut S w w') (hS : ∀ y ∈ F, y ∉ S) : itemV w' F t := by
  obtain ⟨ev, av, cv, vv, bw, h1, h2⟩ := h
  exact ⟨ev, av, cv, vv, bw, h1, h2.keep hk hS⟩
theorem itemV.more {F G : List Nat} {w : World} {t : PK × List Value} (h : itemV w F t) (hF : ∀ y ∈ F, y ∈ G) : itemV w G t := by
  obtain ⟨ev, av, cv, vv, bw, h1, h2⟩ := h
  exact ⟨ev, av, cv, vv, bw, h1, h2.more hF⟩
theorem itemV.len {F : List Nat} {w : World} {t : PK × List Value} (h : itemV w F t) : t.2.length = 87 := by
  obtain ⟨ev, av, cv, vv, bw, h1, h2⟩ := h
  rw [h1]; exact pkL_len h2.rn h2.an
def flatP : List (PK × List Value) → List Value
  | [] => []
  | t :: r => t.2 ++ flatP r
theorem flatP_append : ∀ T U : List (PK × List Value), flatP (T ++ U) = flatP T ++ flatP U
  | [], _ => rfl
  | t :: r, U => by simp [flatP, flatP_append r U]
theorem flatP_len : ∀ T : List (PK × List Value), (∀ t ∈ T, t.2.length = 87) → (flatP T).length = T.length * 87
  | [], _ => rfl
  | t :: r, h => by simp [flatP, flatP_len r (fun x hx => h x (by simp [hx])), h t (by simp)]; omega
theorem flatP_at : ∀ (T : List (PK × List Value)) (i : Nat) (t : PK × List Value), (∀ t ∈ T, t.2.length = 87) → T[i]? = some t → ∀ j u, t.2[j]? = some u → (flatP T)[i * 87 + j]? = some u
  | [], i, t, _, h, j, u, hu => by simp at h
  | a :: r, 0, t, hl, h, j, u, hu => by
    simp at h
    subst h
    show (a.2 ++ flatP r)[0 * 87 + j]? = some u
    rw [show 0 * 87 + j = j by omega, List.getElem?_append_left (List.getElem?_eq_some_iff.1 hu).1]
    exact hu
  | a :: r, i + 1, t, hl, h, j, u, hu => by
    have := flatP_at r i t (fun x hx => hl x (by simp [hx])) (by simpa using h) j u hu
    have ha := hl a (by simp)
    show (a.2 ++ flatP r)[(i + 1) * 87 + j]? = some u
    rw [List.getElem?_append_right (by omega), show (i + 1) * 87 + j - a.2.length = i * 87 + j by omega]
    exact this

/-- block p is a net; its bag v holds T, their lists lie in F; c were ever put -/
structure isN (w : World) (p : Nat) (v : Value) (T : List (PK × List Value)) (F : List Nat) (c : Nat) : Prop where
  row : rowAt w p 71 #[.bool true, v, .int .i64 c]
  own : ownsO w 40 87 v T.length (flatP T)
  its : ∀ t ∈ T, itemV w F t
  far : ∀ y ∈ F, y < w.heap.size ∧ y ≠ p ∧ y ∉ homes v
theorem isN.apart {w : World} {p : Nat} {v : Value} {T : List (PK × List Value)} {F : List Nat} {c : Nat} (h : isN w p v T F c) : p ∉ homes v := h.own.apart h.row (by decide)
theorem isN.keep {S : List Nat} {w w' : World} {p : Nat} {v : Value} {T : List (PK × List Value)} {F : List Nat} {c : Nat} (h : isN w p v T F c) (hk : keepBut S w w') (hp : p ∉ S) (hv : ∀ x ∈ homes v, x ∉ S) (hF : ∀ y ∈ F, y ∉ S) : isN w' p v T F c :=
  ⟨hk.row h.row hp, h.own.keep hk hv, fun t ht => (h.its t ht).keep hk hF, fun y hy => ⟨Nat.lt_of_lt_of_le (h.far y hy).1 hk.size, (h.far y hy).2⟩⟩
theorem isN.over {w w' : World} {p : Nat} {v : Value} {T : List (PK × List Value)} {F : List Nat} {c : Nat} (h : isN w p v T F c) (hk : keepBut [] w w') : isN w' p v T F c := h.keep hk (by simp) (by simp) (by simp)
theorem isN.lens {w : World} {p : Nat} {v : Value} {T : List (PK × List Value)} {F : List Nat} {c : Nat} (h : isN w p v T F c) : ∀ t ∈ T, t.2.length = 87 := fun t ht => (h.its t ht).len
theorem isN.form {w : World} {p : Nat} {v : Value} {T : List (PK × List Value)} {F : List Nat} {c : Nat} (h : isN w p v T F c) : ∃ A k, v = .slice A T.length k ∧ T.length ≤ k ∧ k ≤ maxLen := by
  obtain ⟨A, k, h1, h2, h3, _⟩ := h.own.form
  exact ⟨A, k, h1, h2, h3⟩

theorem noneN_any (p : Nat) (v : Value) (T : List (PK × List Value)) (F : List Nat) (c : Nat) (w : World) (h : isN w p v T F c) :
    Calls Tryd.prog 36 #[.pointer (some ⟨p, 0, none⟩)] w fun e w' => e = .returned (.bool false) ∧ w = w' := by
  have hc := h.row.cell 0
  simp only [List.getElem?_toArray, List.getElem?_cons_zero] at hc
  go_enter Tryd.func36, Tryd.ntmps36
  go_wp2
  go_ret
  exact ⟨rfl, rfl⟩
theorem lenN_any (p : Nat) (v : Value) (T : List (PK × List Value)) (F : List Nat) (c : Nat) (w : World) (h : isN w p v T F c) :
    Calls Tryd.prog 11 #[.pointer (some ⟨p, 0, none⟩)] w fun e w' => e = .returned (.int .i64 T.length) ∧ w = w' := by
  obtain ⟨A, k, rfl, _⟩ := h.form
  have hc : w.cell? ⟨p, 1, none⟩ = some (.slice A T.length k) := h.row.cell 1
  go_enter Tryd.func11, Tryd.ntmps11
  go_wp2_with (go_at_call 36; refine (noneN_any _ _ _ _ _ _ h).mono ?_; rintro e w' ⟨rfl, rfl⟩)
  go_ret
  exact ⟨rfl, rfl⟩
theorem countN_any (p : Nat) (v : Value) (T : List (PK × List Value)) (F : List Nat) (c : Nat) (w : World) (h : isN w p v T F c) :
    Calls Tryd.prog 12 #[.pointer (some ⟨p, 0, none⟩)] w fun e w' => e = .returned (.int .i64 c) ∧ w = w' := by
  have hc : w.cell? ⟨p, 2, none⟩ = some (.int .i64 c) := h.row.cell 2
  go_enter Tryd.func12, Tryd.ntmps12
  go_wp2_with (go_at_call 36; refine (noneN_any _ _ _ _ _ _ h).mono ?_; rintro e w' ⟨rfl, rfl⟩)
  go_ret
  exact ⟨rfl, rfl⟩
theorem findN_yes (p : Nat) (v : Value) (T : List (PK × List Value)) (F : List Nat) (c : Nat) (i : Int) (w : World) (h : isN w p v T F c) (hi : 0 ≤ i ∧ i < T.length) :
    Calls Tryd.prog 37 #[.pointer (some ⟨p, 0, none⟩), .int .i64 i] w fun e w' => e = .returned (.int .i64 0) ∧ w = w' := by
  obtain ⟨A, k, rfl, _⟩ := h.form
  have hc : w.cell? ⟨p, 1, none⟩ = some (.slice A T.length k) := h.row.cell 1
  obtain ⟨h0, h1⟩ := hi
  go_enter Tryd.func37, Tryd.ntmps37
  go_wp2_with (go_at_call 36; refine (noneN_any _ _ _ _ _ _ h).mono ?_; rintro e w' ⟨rfl, rfl⟩)
  go_ret
  exact ⟨rfl, rfl⟩
theorem findN_no (p : Nat) (v : Value) (T : List (PK × List Value)) (F : List Nat) (c : Nat) (i : Int) (w : World) (h : isN w p v T F c) (hi : ¬ (0 ≤ i ∧ i < T.length)) :
    Calls Tryd.prog 37 #[.pointer (some ⟨p, 0, none⟩), .int .i64 i] w fun e w' => e = .returned (.int .i64 9) ∧ w = w' := by
  obtain ⟨A, k, rfl, _⟩ := h.form
  have hc : w.cell? ⟨p, 1, none⟩ = some (.slice A T.length k) := h.row.cell 1
  by_cases h0 : i < 0
  all_goals
    go_enter Tryd.func37, Tryd.ntmps37
    go_wp2_with (go_at_call 36; refine (noneN_any _ _ _ _ _ _ h).mono ?_; rintro e w' ⟨rfl, rfl⟩)
    go_ret
    exact ⟨rfl, rfl⟩
theorem newN_any (w : World) :
    Calls Tryd.prog 8 #[] w fun e w' => ∃ p, e = .returned (.pointer (some ⟨p, 0, none⟩)) ∧ isN w' p (.slice none 0 0) [] [] 0 ∧ keepBut [] w w' ∧ w.heap.size ≤ p := by
  go_enter Tryd.func8, Tryd.ntmps8
  go_wp2
  go_ret
  exact ⟨_, rfl, ⟨rowAt.new w _ _, ownsO.nil _ _ _, by simp, by simp⟩, (keepBut.refl [] w).alloc _, Nat.le_refl _⟩
end Go.Proofs.YtcnlnkkdcofphaaDoor
