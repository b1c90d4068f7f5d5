/-
  VIEW, 1: a row, a list of rows, a view: what they are in memory; the small methods.
-/
import Derived.Test.YtjipokilidhnoaaEqB
import Derived.Laws.Cover1
import Derived.Deep.RegionHeld3
import Derived.Deep.CutBlock
import Derived.Deep.DeepCutAuto
import Derived.BigRegion
import Derived.Outline
import Derived.Lib.Hide
namespace Go.Proofs.Ytjipokilidhnoaa
open Go.RowKit
set_option linter.unusedVariables false
set_option maxRecDepth 100000

/-- a row, as it is told -/
structure VR where
  step : Int
  node : Int
  kind : Int
  bytes : List UInt8
/-- the value v is a slice that reads as the bytes l, in the blocks F -/
def heldB (w : World) (F : List Nat) (v : Value) (l : List UInt8) : Prop :=
  ∃ (A : Option Addr) (c g : Nat), v = .slice A l.length c ∧ l.length ≤ c ∧ c ≤ maxLen ∧ l.length ≤ 1000000 ∧ seen w A g l ∧ (l ≠ [] → g ∈ F)
theorem heldB.keep {S F : List Nat} {w w' : World} {v : Value} {l : List UInt8} (h : heldB w F v l) (hk : keepBut S w w') (hS : ∀ y ∈ F, y ∉ S) : heldB w' F v l := by
  obtain ⟨A, c, g, h1, h2, h3, h4, h5, h6⟩ := h
  exact ⟨A, c, g, h1, h2, h3, h4, h5.keep hk (fun hl => hS g (h6 hl)), h6⟩
theorem heldB.more {F G : List Nat} {w : World} {v : Value} {l : List UInt8} (h : heldB w F v l) (hF : ∀ y ∈ F, y ∈ G) : heldB w G v l := by
  obtain ⟨A, c, g, h1, h2, h3, h4, h5, h6⟩ := h
  exact ⟨A, c, g, h1, h2, h3, h4, h5, fun hl => hF g (h6 hl)⟩
theorem heldB.nil (w : World) (F : List Nat) : heldB w F (.slice none 0 0) [] := ⟨none, 0, 0, rfl, by simp, by simp [maxLen], by simp, seen.nil _ _ _, fun h => absurd rfl h⟩
def rowA (r : VR) (bv : Value) : Array Value := #[.int .i64 r.step, .int .i64 r.node, .int .i64 r.kind, bv]
def flatR : List (VR × Value) → List Value
  | [] => []
  | t :: r => .int .i64 t.1.step :: .int .i64 t.1.node :: .int .i64 t.1.kind :: t.2 :: flatR r
theorem flatR_len : ∀ T : List (VR × Value), (flatR T).length = T.length * 4
  | [] => rfl
  | t :: r => by simp [flatR, flatR_len r]; omega
theorem flatR_at : ∀ (T : List (VR × Value)) (i : Nat) (t : VR × Value), T[i]? = some t →
    (flatR T)[i * 4]? = some (.int .i64 t.1.step) ∧ (flatR T)[i * 4 + 1]? = some (.int .i64 t.1.node) ∧ (flatR T)[i * 4 + 2]? = some (.int .i64 t.1.kind) ∧ (flatR T)[i * 4 + 3]? = some t.2
  | [], i, t, h => by simp at h
  | u :: r, 0, t, h => by simp at h; subst h; simp [flatR]
  | u :: r, i + 1, t, h => by
    have h' : r[i]? = some t := by simpa using h
    have := flatR_at r i t h'
    rw [show (i + 1) * 4 = i * 4 + 4 by omega]
    simpa [flatR] using this
theorem flatR_add (T : List (VR × Value)) (t : VR × Value) : flatR (T ++ [t]) = flatR T ++ [.int .i64 t.1.step, .int .i64 t.1.node, .int .i64 t.1.kind, t.2] := by
  induction T with
  | nil => rfl
  | cons u r ih => simp [flatR, ih]
/-- the view at p has the rows T; their bytes lie in C -/
structure isVv (w : World) (p : Nat) (F : List Nat) (vb : Value) (T : List (VR × Value)) (C : List Nat) : Prop where
  row : rowAt w p 60 #[.bool true, vb]
  own : owns w 46 4 vb T.length (flatR T)
  byt : ∀ t ∈ T, heldB w C t.2 t.1.bytes
  pF : p ∈ F
  vF : ∀ y ∈ homes vb, y ∈ F
  cF : ∀ y ∈ C, y ∈ F
  pC : p ∉ C
  vC : ∀ y ∈ homes vb, y ∉ C
  lt : ∀ y ∈ F, y < w.heap.size
def isV (w : World) (p : Nat) (F : List Nat) (l : List VR) : Prop := ∃ vb T C, isVv w p F vb T C ∧ l = T.map (·.1)
theorem isVv.keep {S : List Nat} {w w' : World} {p : Nat} {F : List Nat} {vb : Value} {T : List (VR × Value)} {C : List Nat} (h : isVv w p F vb T C) (hk : keepBut S w w') (hS : ∀ y ∈ F, y ∉ S) : isVv w' p F vb T C :=
  ⟨hk.row h.row (hS _ h.pF), h.own.keep hk (fun y hy => hS y (h.vF y hy)), fun t ht => (h.byt t ht).keep hk (fun y hy => hS y (h.cF y hy)), h.pF, h.vF, h.cF, h.pC, h.vC, fun y hy => Nat.lt_of_lt_of_le (h.lt y hy) hk.size⟩
theorem isV.keep {S : List Nat} {w w' : World} {p : Nat} {F : List Nat} {l : List VR} (h : isV w p F l) (hk : keepBut S w w') (hS : ∀ y ∈ F, y ∉ S) : isV w' p F l := by
  obtain ⟨vb, T, C, h, e⟩ := h; exact ⟨vb, T, C, h.keep hk hS, e⟩
theorem isV.over {w w' : World} {p : Nat} {F : List Nat} {l : List VR} (h : isV w p F l) (hk : keepBut [] w w') : isV w' p F l := h.keep hk (by simp)
theorem isV.lt {w : World} {p : Nat} {F : List Nat} {l : List VR} (h : isV w p F l) : ∀ y ∈ F, y < w.heap.size := by obtain ⟨vb, T, C, h, _⟩ := h; exact h.lt
theorem isV.mem {w : World} {p : Nat} {F : List Nat} {l : List VR} (h : isV w p F l) : p ∈ F := by obtain ⟨vb, T, C, h, _⟩ := h; exact h.pF
theorem isV.c0 {w : World} {p : Nat} {F : List Nat} {l : List VR} (h : isV w p F l) : w.cell? ⟨p, 0, none⟩ = some (.bool true) := by obtain ⟨vb, T, C, h, _⟩ := h; exact h.row.cell 0
theorem isV.c1 {w : World} {p : Nat} {F : List Nat} {l : List VR} (h : isV w p F l) : ∃ A c, w.cell? ⟨p, 1, none⟩ = some (.slice A l.length c) ∧ l.length ≤ c ∧ c ≤ maxLen := by
  obtain ⟨vb, T, C, h, rfl⟩ := h
  obtain ⟨A, c, rfl, h1, h2, _⟩ := h.own.form
  exact ⟨A, c, by simpa using h.row.cell 1, by simpa using h1, h2⟩
/-- what is left of a method that makes a view grow -/
def vPost (p : Nat) (F : List Nat) (l' : List VR) (w w' : World) : Prop := ∃ F', isV w' p F' l' ∧ keepBut F w w' ∧ ∀ y ∈ F', y ∈ F ∨ w.heap.size ≤ y
def newVPost (w : World) (e : Ending) (w' : World) : Prop := ∃ p F, e = .returned (.pointer (some ⟨p, 0, none⟩)) ∧ isV w' p F [] ∧ (∀ y ∈ F, w.heap.size ≤ y) ∧ keepBut [] w w'

set_option maxHeartbeats 1000000 in
theorem newV_any (w : World) : Calls Try.prog 22 #[] w (newVPost w) := by
  go_enter Try.func22, Try.ntmps22
  go_wp2
  go_ret
  have hr := rowAt.new w 60 #[.bool true, .slice none 0 0]
  exact ⟨w.heap.size, [w.heap.size], rfl, ⟨.slice none 0 0, [], [], ⟨hr, owns.nil _ _ _, by simp, by simp, by simp [homes_none], by simp, by simp, by simp, by intro y hy; rw [List.mem_singleton.1 hy]; exact hr.lt⟩, rfl⟩, by simp, (keepBut.refl [] w).alloc _⟩
set_option maxHeartbeats 400000 in
theorem noneV_any (p : Nat) (F : List Nat) (l : List VR) (w : World) (h : isV w p F l) :
    Calls Try.prog 29 #[.pointer (some ⟨p, 0, none⟩)] w fun e w' => e = .returned (.bool false) ∧ w = w' := by
  have c0 := h.c0
  clear h
  go_enter Try.func29, Try.ntmps29
  go_wp2
  go_ret
  exact ⟨rfl, rfl⟩
set_option maxHeartbeats 400000 in
theorem countR_any (p o : Nat) (A : Option Addr) (n c : Nat) (w : World) (h : w.cell? ⟨p, o, none⟩ = some (.slice A n c)) :
    Calls Try.prog 32 #[.pointer (some ⟨p, o, none⟩)] w fun e w' => e = .returned (.int .i64 (n : Int)) ∧ w = w' := by
  go_enter Try.func32, Try.ntmps32
  go_wp2
  go_ret
  exact ⟨rfl, rfl⟩
set_option maxHeartbeats 400000 in
theorem lenV_any (p : Nat) (F : List Nat) (l : List VR) (w : World) (h : isV w p F l) :
    Calls Try.prog 12 #[.pointer (some ⟨p, 0, none⟩)] w fun e w' => e = .returned (.int .i64 (l.length : Int)) ∧ w = w' := by
  obtain ⟨A, c, c1, _, _⟩ := h.c1
  have H := Lib.hid h
  clear h
  go_enter Try.func12, Try.ntmps12
  go_wp2_with (first | (go_at_call 29; refine (noneV_any _ _ _ _ H.out).mono ?_; rintro e w' ⟨rfl, rfl⟩) | (go_at_call 32; refine (countR_any _ _ _ _ _ _ c1).mono ?_; rintro e w' ⟨rfl, rfl⟩))
  go_ret
  exact ⟨rfl, rfl⟩
/-- which nodes are servers -/
def isSrv (n : Int) : Bool := (decide (0 ≤ n) && decide (n < 3)) || (decide (10 ≤ n) && decide (n < 14))
theorem isSrv_yes {n : Int} (h : (0 ≤ n ∧ n < 3) ∨ (10 ≤ n ∧ n < 14)) : isSrv n = true := by unfold isSrv; rcases h with ⟨a, b⟩ | ⟨a, b⟩ <;> simp [a, b]
theorem isSrv_no {n : Int} (h : ¬ ((0 ≤ n ∧ n < 3) ∨ (10 ≤ n ∧ n < 14))) : isSrv n = false := by
  cases e : isSrv n with
  | false => rfl
  | true => exact absurd (by simpa [isSrv] using e) h
set_option maxHeartbeats 400000 in
theorem isServer_any (n : Int) (w : World) : Calls Try.prog 52 #[.int .i64 n] w fun e w' => e = .returned (.bool (isSrv n)) ∧ w = w' := by
  go_enter Try.func52, Try.ntmps52
  by_cases a : 0 ≤ n
  · by_cases b : n < 3
    · go_wp2
      go_ret
      exact ⟨by rw [isSrv_yes (by omega)]; rfl, rfl⟩
    · by_cases c : 10 ≤ n
      · by_cases d : n < 14
        · go_wp2
          go_ret
          exact ⟨by rw [isSrv_yes (by omega)]; rfl, rfl⟩
        · go_wp2
          go_ret
          exact ⟨by rw [isSrv_no (by omega)]; rfl, rfl⟩
      · go_wp2
        go_ret
        exact ⟨by rw [isSrv_no (by omega)]; rfl, rfl⟩
  · have c : ¬ 10 ≤ n := by omega
    go_wp2
    go_ret
    exact ⟨by rw [isSrv_no (by omega)]; rfl, rfl⟩
end Go.Proofs.Ytjipokilidhnoaa
