/-
  PAD: plain facts on padded bytes.
-/
import Derived.Test.YtaclpogcedgojaaDoorPadWorks
namespace Go.Proofs.YtaclpogcedgojaaDoor
set_option linter.unusedVariables false

theorem allZero_iff (l : List UInt8) : allZero l = true ↔ l = List.replicate l.length 0 := by
  unfold allZero
  rw [List.all_eq_true, List.eq_replicate_iff]
  simp
theorem padP_value (l : List UInt8) (h : l.length ≤ 250) : ∃ S : Nat, classP (l.length : Int) = (S : Int) ∧ 16 ≤ S ∧ S ≤ 256 ∧ l.length + 3 ≤ S ∧ padP l false = (padBytes l S, 0) ∧ (padBytes l S).length = S := by
  rcases classP_cases l.length with ⟨h1, _⟩ | ⟨S, h1, h2, h3, h4, h5⟩
  · omega
  · refine ⟨S, h2, h3, h4, h5, ?_, padBytes_length l S h5⟩
    unfold padP
    rw [if_neg (by simp), if_neg (by omega), if_neg (by simp), h2]; rfl
theorem lenOf_pad (l : List UInt8) (S : Nat) (h : l.length ≤ 250) : lenOf (padBytes l S) = l.length := by
  unfold lenOf padBytes
  have e1 : l.length / 256 = 0 := by omega
  have e2 : l.length % 256 = l.length := by omega
  rw [e1, e2]
  simp
  omega
theorem open_pad (l : List UInt8) (S : Nat) (h : l.length ≤ 250) (hc : classP (l.length : Int) = (S : Int)) (hS : l.length + 3 ≤ S) : openP (padBytes l S) = (l, false, 0) := by
  have hl := padBytes_length l S hS
  have hn := lenOf_pad l S h
  have e3 : (padBytes l S).drop 3 = l ++ List.replicate (S - 3 - l.length) 0 := rfl
  have e0 : (padBytes l S).getD 0 0 = 0 := rfl
  have ed : (padBytes l S).drop (3 + l.length) = List.replicate (S - 3 - l.length) 0 := by
    rw [← List.drop_drop, e3, List.drop_left]
  unfold openP
  rw [if_neg (by omega), hn, hl, ed, if_neg, e0, if_pos rfl, e3, List.take_left]
  rintro (h1 | h1)
  · exact h1 hc
  · have : allZero (List.replicate (S - 3 - l.length) 0) = true := (allZero_iff _).2 (by simp)
    rw [this] at h1; cases h1
theorem padP_grave : padP [] true = (graveBytes 16, 0) := by decide
theorem three {b : List UInt8} (h : ¬ b.length < 3) : ∃ b0 b1 b2 r, b = b0 :: b1 :: b2 :: r := by
  match b, h with
  | [], h => simp at h
  | [_], h => simp at h
  | [_, _], h => simp at h
  | x :: y :: z :: r, _ => exact ⟨x, y, z, r, rfl⟩
theorem open_again (b v : List UInt8) (t : Bool) (e : Int) (h : openP b = (v, t, e)) :
    (e = 4 ∧ v = [] ∧ t = false) ∨ (e = 0 ∧ padP v t = (b, 0)) := by
  unfold openP at h
  by_cases h3 : b.length < 3
  · rw [if_pos h3] at h; simp only [Prod.mk.injEq] at h; exact .inl ⟨h.2.2.symm, h.1.symm, h.2.1.symm⟩
  · rw [if_neg h3] at h
    by_cases hc : classP (lenOf b : Int) ≠ (b.length : Int) ∨ allZero (b.drop (3 + lenOf b)) = false
    · rw [if_pos hc] at h; simp only [Prod.mk.injEq] at h; exact .inl ⟨h.2.2.symm, h.1.symm, h.2.1.symm⟩
    · rw [if_neg hc] at h
      have hc1 : classP (lenOf b : Int) = (b.length : Int) := by
        by_cases hx : classP (lenOf b : Int) = (b.length : Int)
        · exact hx
        · exact absurd (.inl hx) hc
      have hc2 : allZero (b.drop (3 + lenOf b)) = true := by
        cases hx : allZero (b.drop (3 + lenOf b)) with
        | true => rfl
        | false => exact absurd (.inr hx) hc
      obtain ⟨b0, b1, b2, r, rfl⟩ := three h3
      obtain ⟨n, hn⟩ : ∃ n, n = lenOf (b0 :: b1 :: b2 :: r) := ⟨_, rfl⟩
      have hnv : n = b1.toNat * 256 + b2.toNat := hn
      rw [← hn] at h hc1 hc2
      have hb1 := UInt8.toNat_lt b1
      have hb2 := UInt8.toNat_lt b2
      rcases classP_cases n with ⟨_, h2⟩ | ⟨S, h1, h2, h4, h5, h6⟩
      · rw [h2] at hc1; simp at hc1; omega
      have hS : (b0 :: b1 :: b2 :: r).length = S := by omega
      have hr : r.length + 3 = S := by simpa using hS
      have hz := (allZero_iff _).1 hc2
      have e3 : (b0 :: b1 :: b2 :: r).drop (3 + n) = r.drop n := by rw [Nat.add_comm]; rfl
      rw [e3] at hz
      have hzl : (r.drop n).length = S - 3 - n := by rw [List.length_drop]; omega
      rw [hzl] at hz
      have hrr : r = r.take n ++ List.replicate (S - 3 - n) 0 := by
        have := (List.take_append_drop n r).symm
        rw [hz] at this
        exact this
      have hvl : (r.take n).length = n := by rw [List.length_take]; omega
      by_cases h00 : b0 = 0
      · rw [show (b0 :: b1 :: b2 :: r).getD 0 0 = b0 from rfl, if_pos h00] at h
        simp only [Prod.mk.injEq] at h
        obtain ⟨hv, ht, he⟩ := h
        refine .inr ⟨he.symm, ?_⟩
        have hv' : v = r.take n := hv.symm
        subst hv'
        rw [← ht]
        unfold padP
        rw [if_neg (by simp), hvl, if_neg (by omega), if_neg (by simp), h2]
        have eS : ((S : Int)).toNat = S := rfl
        rw [eS]
        refine Prod.ext ?_ rfl
        show padBytes (r.take n) S = _
        unfold padBytes
        rw [hvl]
        have q1 : UInt8.ofNat (n / 256) = b1 := by
          rw [← UInt8.toNat_inj, UInt8.toNat_ofNat']; omega
        have q2 : UInt8.ofNat (n % 256) = b2 := by
          rw [← UInt8.toNat_inj, UInt8.toNat_ofNat']; omega
        rw [q1, q2, h00]
        conv => rhs; rw [hrr]
        rfl
      · rw [show (b0 :: b1 :: b2 :: r).getD 0 0 = b0 from rfl, if_neg h00] at h
        by_cases h01 : b0 = 1 ∧ n = 0
        · rw [if_pos h01] at h
          simp only [Prod.mk.injEq] at h
          obtain ⟨hv, ht, he⟩ := h
          refine .inr ⟨he.symm, ?_⟩
          obtain ⟨h01, hn0⟩ := h01
          subst hn0
          have hS16 : S = 16 := by
            have : classP ((0 : Nat) : Int) = 16 := by decide
            omega
          subst hS16
          rw [← hv, ← ht, padP_grave]
          refine Prod.ext ?_ rfl
          show graveBytes 16 = _
          have q1 : b1 = 0 := by rw [← UInt8.toNat_inj]; show b1.toNat = 0; omega
          have q2 : b2 = 0 := by rw [← UInt8.toNat_inj]; show b2.toNat = 0; omega
          rw [h01, q1, q2, hrr]
          rfl
        · rw [if_neg h01] at h
          simp only [Prod.mk.injEq] at h
          exact .inl ⟨h.2.2.symm, h.1.symm, h.2.1.symm⟩
end Go.Proofs.YtaclpogcedgojaaDoor
