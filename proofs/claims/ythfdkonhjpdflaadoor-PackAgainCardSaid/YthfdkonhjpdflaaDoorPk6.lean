/-
  PACK, 6: slices.EqualFunc of votes; what a field is that a kind has not.
-/
import Derived.Test.YthfdkonhjpdflaaDoorPk5
namespace Go.Proofs.YthfdkonhjpdflaaDoor
open Go.RowKit
set_option linter.unusedVariables false
set_option maxRecDepth 100000

def vEq : List VT → List VT → Bool
  | [], [] => true
  | a :: l, b :: m => a.same b && vEq l m
  | [], _ :: _ => false
  | _ :: _, [] => false
theorem vEq_iff : ∀ l m : List VT, vEq l m = true ↔ l = m
  | [], [] => by simp [vEq]
  | a :: l, b :: m => by simp [vEq, VT.same_iff, vEq_iff l m]
  | [], _ :: _ => by simp [vEq]
  | _ :: _, [] => by simp [vEq]
theorem vEq_no {l m : List VT} (h : ¬ l = m) : vEq l m = false := by
  cases e : vEq l m with
  | false => rfl
  | true => exact absurd ((vEq_iff l m).1 e) h
theorem take_snocV {l m : List VT} {k : Nat} {a b : VT} (ha : l[k]? = some a) (hb : m[k]? = some b) (h : l.take k = m.take k) (e : a = b) : l.take (k + 1) = m.take (k + 1) := by
  rw [List.take_add_one, List.take_add_one, ha, hb, h, e]
theorem take_neV {l m : List VT} {k : Nat} {a b : VT} (ha : l[k]? = some a) (hb : m[k]? = some b) (e : a ≠ b) : ¬ l = m := fun h => by
  subst h; rw [ha] at hb; injection hb with hb; exact e hb
set_option maxHeartbeats 4000000 in
theorem eqVotes_any (F G : List Nat) (l m : List VT) (v u : Value) (w : World) (h : votesV w F v l) (h' : votesV w G u m) :
    Calls Tryd.prog 55 #[v, u, .func (.func 56) #[] #[]] w fun e w' => e = .returned (.bool (vEq l m)) ∧ keepBut [] w w' := by
  obtain ⟨A, c, gA, TA, rfl, _, hc, _⟩ := id h
  obtain ⟨B, d, gB, TB, rfl, _, hd, _⟩ := id h'
  by_cases hlen : l.length = m.length
  · have hmx : l.length ≤ 9223372036854775807 := by unfold maxLen at hc; omega
    have HA := Lib.hid (And.intro h (And.intro h' hlen))
    rw [← hlen]
    clear h h' hlen
    go_enter Tryd.func55, Tryd.ntmps55
    go_wp2
    go_loopw [7, 8, 9, 17] (fun _ _ _ v17 wx => ∃ i : Nat, i ≤ l.length ∧ v17 = .int .i64 (i : Int) ∧ l.take i = m.take i ∧ keepBut [] w wx) (fun _ _ _ v17 _ => l.length - (intOf v17).toNat)
    case atStart => exact ⟨0, by omega, rfl, rfl, keepBut.refl _ _⟩
    case round =>
      obtain ⟨i, hi, rfl, ht, hk⟩ := hrel
      by_cases hlt : i < l.length
      · have hlt' : (i : Int) < (l.length : Int) := by omega
        obtain ⟨a, ha⟩ : ∃ a, l[i]? = some a := ⟨_, List.getElem?_eq_getElem hlt⟩
        obtain ⟨b, hb⟩ : ∃ a, m[i]? = some a := ⟨_, List.getElem?_eq_getElem (by have := HA.out.2.2; omega)⟩
        obtain ⟨g, o, cv, rfl, hgl, _, hcv, x0, x1, x2, x3⟩ := (HA.out.1.keep hk (by simp)).at ha
        obtain ⟨k, p, dv, rfl, hkl, _, hdv, y0, y1, y2, y3⟩ := (HA.out.2.1.keep hk (by simp)).at hb
        have hw1 : IntKind.i64.wrap ((i : Int) + 1) = (i : Int) + 1 := wraps_i64 _ (by omega) (by omega)
        have hne : a ≠ b → ¬ l = m := take_neV ha hb
        have HR := Lib.hid (And.intro ht (And.intro hk (And.intro ha (And.intro hb (And.intro hcv (And.intro hdv hne))))))
        clear ht hk ha hb hcv hdv hne
        obtain ⟨ab, an, af, al⟩ := a
        obtain ⟨bb, bn, bf, bl⟩ := b
        dsimp only at x0 x1 x2 x3 y0 y1 y2 y3
        obtain ⟨CA, cc, cg, rfl, _⟩ := id HR.out.2.2.2.2.1
        obtain ⟨DA, dc, dg, rfl, _⟩ := id HR.out.2.2.2.2.2.1
        dsimp only at x3 y3
        go_upto_region 6 with fail
        have r1 := rowAt.new wr 69 #[.int .i64 ab, .int .i64 an, .int .i64 af, .slice CA al.length cc]
        have k1 := (keepBut.refl [] wr).alloc (.cells #[.int .i64 ab, .int .i64 an, .int .i64 af, .slice CA al.length cc] 69)
        obtain ⟨w1, hw1e⟩ : ∃ w1, wr.alloc (.cells #[.int .i64 ab, .int .i64 an, .int .i64 af, .slice CA al.length cc] 69) = w1 := ⟨_, rfl⟩
        rw [hw1e] at r1 k1 ⊢
        clear hw1e
        have ek := fun o => k1.cell (p := ⟨k, o, none⟩) hkl (by simp)
        rw [← ek] at y0 y1 y2 y3
        go_upto_region 7 with fail
        have r2 := rowAt.new w1 69 #[.int .i64 bb, .int .i64 bn, .int .i64 bf, .slice DA bl.length dc]
        have k2 := (keepBut.refl [] w1).alloc (.cells #[.int .i64 bb, .int .i64 bn, .int .i64 bf, .slice DA bl.length dc] 69)
        have r12 := k2.row r1 (by simp)
        obtain ⟨w2, hw2e⟩ : ∃ w2, w1.alloc (.cells #[.int .i64 bb, .int .i64 bn, .int .i64 bf, .slice DA bl.length dc] 69) = w2 := ⟨_, rfl⟩
        rw [hw2e] at r2 r12 k2 ⊢
        clear hw2e
        have p0 : w2.cell? ⟨wr.heap.size, 0, none⟩ = some (.int .i64 ab) := r12.cell 0
        have p1 : w2.cell? ⟨wr.heap.size, 1, none⟩ = some (.int .i64 an) := r12.cell 1
        have p2 : w2.cell? ⟨wr.heap.size, 2, none⟩ = some (.int .i64 af) := r12.cell 2
        have p3 : w2.cell? ⟨wr.heap.size, 3, none⟩ = some (.slice CA al.length cc) := r12.cell 3
        have q0 : w2.cell? ⟨w1.heap.size, 0, none⟩ = some (.int .i64 bb) := r2.cell 0
        have q1 : w2.cell? ⟨w1.heap.size, 1, none⟩ = some (.int .i64 bn) := r2.cell 1
        have q2 : w2.cell? ⟨w1.heap.size, 2, none⟩ = some (.int .i64 bf) := r2.cell 2
        have q3 : w2.cell? ⟨w1.heap.size, 3, none⟩ = some (.slice DA bl.length dc) := r2.cell 3
        have kk := k1.then k2 (by simp)
        have HC := Lib.hid (sameVote_any F G ⟨ab, an, af, al⟩ ⟨bb, bn, bf, bl⟩ _ _ w2 (HR.out.2.2.2.2.1.keep kk (by simp)) (HR.out.2.2.2.2.2.1.keep kk (by simp)))
        have HK := Lib.hid (HR.out.2.1.then kk (by simp))
        clear x0 x1 x2 x3 y0 y1 y2 y3 ek k1 r1 r2 r12 k2 kk
        by_cases hab : VT.same ⟨ab, an, af, al⟩ ⟨bb, bn, bf, bl⟩ = true
        · have heq := (VT.same_iff _ _).1 hab
          rw [hab] at HC
          go_wp2_with fail
          refine HC.out.mono ?_
          rintro e w' ⟨rfl, k3⟩
          have HK3 := Lib.hid (HK.out.then k3 (by simp))
          have HQ := Lib.hid heq
          clear k3 heq hab p0 p1 p2 p3 q0 q1 q2 q3
          go_wp2_with fail
          go_roundw
          case rel => exact ⟨i + 1, by omega, by go_num, take_snocV HR.out.2.2.1 HR.out.2.2.2.1 HR.out.1 HQ.out, HK3.out⟩
          case measure => simp [intOf]; omega
        · have hf : VT.same ⟨ab, an, af, al⟩ ⟨bb, bn, bf, bl⟩ = false := by simpa using hab
          have HD := Lib.hid (vEq_no (HR.out.2.2.2.2.2.2 (fun h => hab ((VT.same_iff _ _).2 h))))
          rw [hf] at HC
          clear hab hf
          go_wp2_with fail
          refine HC.out.mono ?_
          rintro e w' ⟨rfl, k3⟩
          have HK3 := Lib.hid (HK.out.then k3 (by simp))
          clear k3 p0 p1 p2 p3 q0 q1 q2 q3
          go_wp2_with fail
          go_ret
          exact ⟨by rw [HD.out]; rfl, HK3.out⟩
      · obtain rfl : i = l.length := by omega
        have heq : l = m := by rw [List.take_length, HA.out.2.2, List.take_length] at ht; exact ht
        have HD := Lib.hid ((vEq_iff l m).2 heq)
        have HK := Lib.hid hk
        clear heq ht hk
        go_wp2_with fail
        go_ret
        exact ⟨by rw [HD.out]; rfl, HK.out⟩
  · have HD := Lib.hid (vEq_no (l := l) (m := m) (fun h => hlen (by rw [h])))
    have hb1 : ((l.length : Int) != (m.length : Int)) = true := by simp; omega
    clear h h' hlen
    go_enter Tryd.func55, Tryd.ntmps55
    go_wp2
    go_ret
    exact ⟨by rw [HD.out]; rfl, keepBut.refl _ _⟩
end Go.Proofs.YthfdkonhjpdflaaDoor
