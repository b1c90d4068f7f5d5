/-
  VIEW, 7: two rows, whether they are the same; First.
-/
import Derived.Test.YtjipokilidhnoaaView6
namespace Go.Proofs.Ytjipokilidhnoaa
open Go.RowKit
set_option linter.unusedVariables false
set_option maxRecDepth 100000

set_option maxHeartbeats 400000 in
theorem equalB_any (A B : Option Addr) (g h c d : Nat) (l m : List UInt8) (w : World) (hl : seen w A g l) (hm : seen w B h m) :
    Calls Try.prog 58 #[.slice A l.length c, .slice B m.length d] w fun e w' => e = .returned (.bool (l == m)) ∧ w = w' := by
  have k1 := convert_seen (P := Try.prog) w 22 5 9 Try.underlying22 Try.underlying5 Try.underlying9 A g c l hl
  have k2 := convert_seen (P := Try.prog) w 22 5 9 Try.underlying22 Try.underlying5 Try.underlying9 B h d m hm
  go_enter Try.func58, Try.ntmps58
  go_wp2
  go_ret
  exact ⟨by rw [strOf_list, strOf_list]; rfl, rfl⟩
def sameV (r s : VR) : Bool := decide (r.step = s.step) && decide (r.node = s.node) && decide (r.kind = s.kind) && (r.bytes == s.bytes)
theorem sameV_iff (r s : VR) : sameV r s = true ↔ r = s := by
  obtain ⟨a, b, c, d⟩ := r
  obtain ⟨a', b', c', d'⟩ := s
  simp [sameV, and_assoc]
set_option maxHeartbeats 2000000 in
theorem sameR_any (F G : List Nat) (s nd kd : Int) (b : List UInt8) (s' nd' kd' : Int) (b' : List UInt8) (A B : Option Addr) (n m : Nat) (w : World) (ha : heldB w F (.slice A b.length n) b) (hb : heldB w G (.slice B b'.length m) b') :
    Calls Try.prog 38 #[.agg #[.int .i64 s, .int .i64 nd, .int .i64 kd, .slice A b.length n], .agg #[.int .i64 s', .int .i64 nd', .int .i64 kd', .slice B b'.length m]] w
      fun e w' => e = .returned (.bool (sameV ⟨s, nd, kd, b⟩ ⟨s', nd', kd', b'⟩)) ∧ keepBut [] w w' := by
  have k1 := (keepBut.refl [] w).alloc (.cells #[.int .i64 s, .int .i64 nd, .int .i64 kd, .slice A b.length n] 46)
  have k2 := (keepBut.refl [] (w.alloc (.cells #[.int .i64 s, .int .i64 nd, .int .i64 kd, .slice A b.length n] 46))).alloc (.cells #[.int .i64 s', .int .i64 nd', .int .i64 kd', .slice B b'.length m] 46)
  have kk := k1.then k2 (by simp)
  obtain ⟨A', c1, g1, e1, _, _, _, s1, _⟩ := ha.keep kk (by simp)
  injection e1 with ea _ ec
  subst ea ec
  obtain ⟨B', c2, g2, e2, _, _, _, s2, _⟩ := hb.keep kk (by simp)
  injection e2 with ea _ ec
  subst ea ec
  have HE := Lib.hid (equalB_any A B g1 g2 n m b b' _ s1 s2)
  have HK := Lib.hid kk
  have HS := Lib.hid (show sameV ⟨s, nd, kd, b⟩ ⟨s', nd', kd', b'⟩ = (decide (s = s') && decide (nd = nd') && decide (kd = kd') && (b == b')) from rfl)
  clear k1 k2 kk s1 s2 ha hb
  generalize sameV ⟨s, nd, kd, b⟩ ⟨s', nd', kd', b'⟩ = sv at *
  obtain ⟨q, hq⟩ : ∃ q, (b == b') = q := ⟨_, rfl⟩
  rw [hq] at HE HS
  clear hq
  by_cases h1 : s = s'
  · by_cases h2 : nd = nd'
    · by_cases h3 : kd = kd'
      · subst h1 h2 h3
        have HS2 := Lib.hid (show sv = q by rw [HS.out]; simp)
        go_enter Try.func38, Try.ntmps38
        go_wp2_with (go_at_call 58; refine HE.out.mono ?_; rintro e w' ⟨rfl, rfl⟩)
        go_ret
        exact ⟨by rw [HS2.out]; rfl, HK.out⟩
      · have HS2 := Lib.hid (show sv = false by rw [HS.out]; simp [h3])
        have t3 : (kd == kd') = false := by simpa using h3
        subst h1 h2
        clear h3
        go_enter Try.func38, Try.ntmps38
        go_wp2
        go_ret
        exact ⟨by rw [HS2.out]; rfl, HK.out⟩
    · have HS2 := Lib.hid (show sv = false by rw [HS.out]; simp [h2])
      have t2 : (nd == nd') = false := by simpa using h2
      subst h1
      clear h2
      go_enter Try.func38, Try.ntmps38
      go_wp2
      go_ret
      exact ⟨by rw [HS2.out]; rfl, HK.out⟩
  · have HS2 := Lib.hid (show sv = false by rw [HS.out]; simp [h1])
    have t1 : (s == s') = false := by simpa using h1
    clear h1
    go_enter Try.func38, Try.ntmps38
    go_wp2
    go_ret
    exact ⟨by rw [HS2.out]; rfl, HK.out⟩

def firstAt : List VR → List VR → Nat → Int
  | [], [], _ => -1
  | [], _ :: _, k => (k : Int)
  | _ :: _, [], k => (k : Int)
  | a :: l, b :: m, k => if sameV a b then firstAt l m (k + 1) else (k : Int)
theorem firstAt_end {l m : List VR} {k : Nat} (h1 : l.length ≤ k) (h2 : m.length ≤ k) : firstAt (l.drop k) (m.drop k) k = -1 := by
  rw [List.drop_eq_nil_of_le h1, List.drop_eq_nil_of_le h2]; rfl
theorem firstAt_l {l m : List VR} {k : Nat} (h1 : l.length ≤ k) (h2 : k < m.length) : firstAt (l.drop k) (m.drop k) k = (k : Int) := by
  rw [List.drop_eq_nil_of_le h1, List.drop_eq_getElem_cons h2]; rfl
theorem firstAt_m {l m : List VR} {k : Nat} (h1 : m.length ≤ k) (h2 : k < l.length) : firstAt (l.drop k) (m.drop k) k = (k : Int) := by
  rw [List.drop_eq_nil_of_le h1, List.drop_eq_getElem_cons h2]; rfl
theorem firstAt_both {l m : List VR} {k : Nat} {a b : VR} (h1 : l[k]? = some a) (h2 : m[k]? = some b) : firstAt (l.drop k) (m.drop k) k = if sameV a b then firstAt (l.drop (k + 1)) (m.drop (k + 1)) (k + 1) else (k : Int) := by
  obtain ⟨i1, e1⟩ := List.getElem?_eq_some_iff.1 h1
  obtain ⟨i2, e2⟩ := List.getElem?_eq_some_iff.1 h2
  rw [List.drop_eq_getElem_cons i1, List.drop_eq_getElem_cons i2, e1, e2]
  rfl
end Go.Proofs.Ytjipokilidhnoaa
