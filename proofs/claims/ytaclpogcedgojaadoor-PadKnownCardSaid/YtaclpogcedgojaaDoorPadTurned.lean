/-
  PadTurned: if one byte of a padded value is another one, it can't be opened, or is another value.
-/
import Derived.Test.YtaclpogcedgojaaDoorPadBack
import Derived.Laws.BitsAllLaws
namespace Go.Proofs.YtaclpogcedgojaaDoor
open Go.RowKit
set_option linter.unusedVariables false

/-- an owned slice of bytes, written at one place -/
theorem owns_set {w : World} {v : Value} {l : List UInt8} (h : owns w 5 1 v l.length (l.map bv)) (i : Nat) (x : UInt8) (hi : l[i]? = some x) :
    ∃ g c, v = .slice (some ⟨g, 0, none⟩) l.length c ∧ g ∈ homes v ∧ w.cell? ⟨g, i, none⟩ = some (bv x) ∧ w.frozen? ⟨g, i, none⟩ = false ∧ l.length ≤ c ∧ c ≤ maxLen ∧
      ∀ b : UInt8, owns (w.setCell ⟨g, i, none⟩ (bv b)) 5 1 v (l.set i b).length ((l.set i b).map bv) := by
  have hil : i < l.length := (List.getElem?_eq_some_iff.1 hi).1
  rcases h.2 with ⟨rfl, h0⟩ | ⟨g, cap, cur, rfl, hr, h1, h2, h3, h4⟩
  · omega
  · refine ⟨g, cap, rfl, by simp [homes_some], ?_, hr.free i, h1, h2, fun b => ⟨by simp, .inr ⟨g, cap, cur.setIfInBounds i (bv b), by simp, hr.set i (bv b), by simpa using h1, h2, by simpa using h3, ?_⟩⟩⟩
    · rw [hr.cell]
      have : (cur.toList.take (l.length * 1))[i]? = some (bv x) := by rw [h4]; simp [hi]
      rw [List.getElem?_take] at this
      split at this
      · simpa using this
      · cases this
    · rw [Nat.mul_one] at h4 ⊢
      simp only [List.length_set, Array.toList_setIfInBounds, List.take_set, List.map_set]
      rw [h4]
theorem xor_byte (x q : UInt8) : bits .xor .u8 (x.toNat : Int) (q.toNat : Int) = (((x ^^^ q).toNat : Nat) : Int) := by
  rw [u8_xor_nat _ _ (UInt8.toNat_lt x) (UInt8.toNat_lt q), UInt8.toNat_xor]
theorem xor_ne {x q : UInt8} (h : q ≠ 0) : x ^^^ q ≠ x := by
  intro e
  apply h
  have := congrArg (x ^^^ ·) e
  simpa [← UInt8.xor_assoc] using this
/-- a byte of the value is another one -/
theorem pad_inside (l : List UInt8) (S k : Nat) (b : UInt8) (h3 : 3 ≤ k) (hk : k < 3 + l.length) : (padBytes l S).set k b = padBytes (l.set (k - 3) b) S := by
  unfold padBytes
  obtain ⟨j, rfl⟩ : ∃ j, k = j + 3 := ⟨k - 3, by omega⟩
  have hj : j < l.length := by omega
  rw [Nat.add_sub_cancel, List.append_assoc, List.append_assoc]
  simp only [List.length_set, List.cons_append, List.nil_append, List.set_cons_succ]
  rw [List.set_append_left _ _ hj]
theorem turned_pure (l : List UInt8) (S k : Nat) (x q : UInt8) (hl : l.length ≤ 250) (hc : classP (l.length : Int) = (S : Int)) (hS : l.length + 3 ≤ S) (hP : padP l false = (padBytes l S, 0)) (hx : (padBytes l S)[k]? = some x) (hq : q ≠ 0)
    (v : List UInt8) (t : Bool) (f : Int) (hO : openP ((padBytes l S).set k (x ^^^ q)) = (v, t, f)) :
    ¬ (f = 0 ∧ t = false ∧ v = l) ∧ (3 ≤ k → k < 3 + l.length → f = 0 ∧ v.length = l.length) := by
  constructor
  · rintro ⟨rfl, rfl, rfl⟩
    rcases open_again _ _ _ _ hO with ⟨h, _⟩ | ⟨_, h⟩
    · omega
    · rw [hP] at h
      have h1 := congrArg Prod.fst h
      simp only at h1
      have h2 : ((padBytes v S).set k (x ^^^ q))[k]? = some x := by rw [← h1]; exact hx
      have hkl : k < (padBytes v S).length := (List.getElem?_eq_some_iff.1 hx).1
      rw [List.getElem?_set_self hkl] at h2
      exact xor_ne hq (Option.some.inj h2)
  · intro h3 hk
    rw [pad_inside l S k _ h3 hk, open_pad _ S (by simpa using hl) (by simpa using hc) (by simpa using hS)] at hO
    simp only [Prod.mk.injEq] at hO
    exact ⟨hO.2.2.symm, by rw [← hO.1]; simp⟩

set_option maxRecDepth 100000 in
set_option maxHeartbeats 2000000 in
theorem padTurned_law (A : Option Addr) (g c : Nat) (l0 : List UInt8) (at_ bits_ : Int) (w : World) (hs : seen w A g l0) (hlc : l0.length ≤ c) (hcm : c ≤ maxLen) (wa : (Lit.int .i64 at_).wf = true) (wb : (Lit.int .u8 bits_).wf = true) (h : classesAt w) :
    Calls Tryd.prog 8 #[.slice A l0.length c, .int .i64 at_, .int .u8 bits_] w (yesPost w) := by
  have hat : -9223372036854775808 ≤ at_ ∧ at_ ≤ 9223372036854775807 := by simpa [Lit.wf, IntKind.min, IntKind.max, IntKind.signed, IntKind.bits] using wa
  have hbt : 0 ≤ bits_ ∧ bits_ ≤ 255 := by simpa [Lit.wf, IntKind.min, IntKind.max, IntKind.signed, IntKind.bits] using wb
  obtain ⟨q, rfl⟩ : ∃ q : UInt8, bits_ = (q.toNat : Int) := ⟨UInt8.ofNat bits_.toNat, by rw [UInt8.toNat_ofNat']; omega⟩
  clear wa wb hbt
  unfold maxLen at hcm
  obtain ⟨l, hL⟩ : ∃ l, l = l0.take 250 := ⟨_, rfl⟩
  have sl : seen w A g l := by rw [hL]; exact hs.take 250
  have l3 : l.length ≤ 250 := by rw [hL, List.length_take]; omega
  have e1 : (if 250 < (l0.length : Int) then 250 else (l0.length : Int)).toNat = l.length := by rw [hL, List.length_take]; split <;> omega
  have E1 := Lib.hid e1
  clear e1 hL hs
  obtain ⟨S, hS, hS1, hS2, hS3, hP, hPl⟩ := padP_value l l3
  obtain ⟨k, hk⟩ : ∃ k : Nat, at_ % (S : Int) = (k : Int) := ⟨(at_ % (S : Int)).toNat, by have := Int.emod_nonneg at_ (show (S : Int) ≠ 0 by omega); omega⟩
  have hkS : k < S := by have := Int.emod_lt_of_pos at_ (show (0 : Int) < (S : Int) by omega); omega
  obtain ⟨x, hx⟩ : ∃ x, (padBytes l S)[k]? = some x := ⟨(padBytes l S)[k]'(by omega), List.getElem?_eq_getElem _⟩
  obtain ⟨bb, hbb⟩ : ∃ bb, bb = (padBytes l S).set k (x ^^^ q) := ⟨_, rfl⟩
  have hbl : bb.length = S := by rw [hbb, List.length_set, hPl]
  obtain ⟨v, t, f, hO⟩ : ∃ v t f, openP bb = (v, t, f) := ⟨_, _, _, rfl⟩
  have hT : q ≠ 0 → ¬ (f = 0 ∧ t = false ∧ v = l) ∧ (3 ≤ k → k < 3 + l.length → f = 0 ∧ v.length = l.length) := fun hq => turned_pure l S k x q l3 hS hS3 hP hx hq v t f (by rw [← hbb]; exact hO)
  have hT0 : q = 0 → f = 0 ∧ t = false ∧ v = l := fun hq => by
    have : bb = padBytes l S := by
      rw [hbb, hq]
      have : x ^^^ 0 = x := by simp
      rw [this]
      obtain ⟨hkk, rfl⟩ := List.getElem?_eq_some_iff.1 hx
      exact List.set_getElem_self hkk
    rw [this, open_pad l S l3 hS hS3] at hO
    simp only [Prod.mk.injEq] at hO
    exact ⟨hO.2.2.symm, hO.2.1.symm, hO.1.symm⟩
  have hxq := xor_byte x q
  have HH := Lib.hid (And.intro hS (And.intro hP (And.intro hPl (And.intro hk (And.intro hx (And.intro hbb (And.intro hbl hO)))))))
  have HT := Lib.hid (And.intro hT hT0)
  clear hS hP hPl hk hx hbb hbl hO hT hT0
  go_enter Tryd.func8, Tryd.ntmps8
  go_upto_region 2 with fail
  simp only [E1.out]
  generalize (if 250 < (l0.length : Int) then 250 else (l0.length : Int)) = zz
  go_wp2_with fail
  refine (pad_n _ g _ l.length l false _ rfl h sl (by omega)).mono ?_; rintro e w1 ⟨v1, rfl, ho1, hf1, k1⟩
  rw [HH.out.2.1] at ho1 ⊢
  have h1 := h.keep k1
  have s1 := sl.keep k1 (by simp)
  obtain ⟨g1, c1, rfl, hg1, hcell, hfree, hc1, hm1, hset⟩ := owns_set ho1 k x HH.out.2.2.2.2.1
  have o2 := hset (x ^^^ q)
  rw [← HH.out.2.2.2.2.2.1] at o2
  have hg1' := hf1 g1 hg1
  simp only [HH.out.2.2.1] at hc1 ⊢
  rw [HH.out.2.2.1] at o2
  have kk : keepBut [] w (w1.setCell ⟨g1, k, none⟩ (bv (x ^^^ q))) := k1.setCell _ _ (.inr hg1')
  have s2 : seen (w1.setCell ⟨g1, k, none⟩ (bv (x ^^^ q))) A g l := sl.keep kk (by simp)
  have h2 := h.keep kk
  clear hset ho1 hf1 k1 h1 s1 hg1 h sl
  unfold bv at hcell
  have hkS' : (k : Int) < (S : Int) := by omega
  have hS0 : ¬ (S : Int) = 0 := by omega
  have hS0' : ((S : Int) == 0) = false := by simp; omega
  go_wp2_with fail
  refine (bring_any _ _ hat.1 hat.2 (by omega) (by omega) _).mono ?_; rintro e w' ⟨rfl, rfl⟩; rw [HH.out.2.2.2.1]
  go_upto_region 7 with fail
  rw [show Value.int IntKind.u8 ((x.toNat ^^^ q.toNat : Nat) : Int) = bv (x ^^^ q) from by unfold bv; rw [UInt8.toNat_xor]]
  clear hcell hfree
  generalize w1.setCell ⟨g1, k, none⟩ (bv (x ^^^ q)) = w2 at *
  obtain ⟨A2, c2', g2, he2, hc2, hm2, t2⟩ := seen_homes (l := bb) o2
  rw [HH.out.2.2.2.2.2.2.1] at hc2
  obtain ⟨rfl, rfl⟩ : some (⟨g1, 0, none⟩ : Addr) = A2 ∧ c1 = c2' := by injection he2 with e1 e2 e3; exact ⟨e1, e3⟩
  clear he2 o2
  go_wp2_with fail
  refine (open_n _ g2 _ S bb _ HH.out.2.2.2.2.2.2.1 h2 t2 hc2 hm2 (by omega)).mono ?_; rintro e w3 ⟨v3, rfl, ho3, hf3, k3⟩
  rw [HH.out.2.2.2.2.2.2.2] at ho3 ⊢
  have h3 := h2.keep k3
  have s3 := s2.keep k3 (by simp)
  obtain ⟨A3, c3, g3, rfl, hc3, hm3, t3⟩ := seen_homes ho3
  have kk3 := kk.then k3 (by simp)
  clear ho3 hf3 k3 h2 s2 kk t2 hm2 hm3 hc2
  by_cases hq : q = 0
  · obtain ⟨rfl, rfl, hvl⟩ := HT.out.2 hq
    have d0 : ((q.toNat : Int) == 0) = true := by rw [hq]; rfl
    have HV := Lib.hid hvl
    clear hq hvl
    go_wp2_with fail
    refine (eqBytes_n _ _ g3 g _ _ v.length l.length v l _ rfl rfl t3 s3).mono ?_; rintro e w4 ⟨rfl, rfl⟩
    rw [show (v == l) = true by rw [HV.out]; simp]
    go_wp2_with fail
    refine (works_any _ h3).mono ?_; rintro e w5 ⟨rfl, k5⟩
    go_wp2_with fail
    go_ret
    exact ⟨rfl, kk3.then k5 (by simp)⟩
  · obtain ⟨hn, hin⟩ := HT.out.1 hq
    have d0 : ((q.toNat : Int) == 0) = false := by
      have : q.toNat ≠ 0 := fun h => hq (by rw [← UInt8.toNat_inj]; simpa using h)
      simp; omega
    have hins : (3 ≤ k ∧ k < 3 + l.length) ∨ ¬ (3 ≤ k ∧ k < 3 + l.length) := by omega
    have HN := Lib.hid hn
    have HI := Lib.hid hin
    clear hq hn hin
    by_cases hf0 : f = 0
    · subst hf0
      cases t with
      | true =>
        rcases hins with ⟨i1, i2⟩ | i12
        · have hvl : ((v.length : Int) == (l.length : Int)) = true := by simp; exact_mod_cast (HI.out i1 i2).2
          have j1 : (3 : Int) ≤ (k : Int) := by omega
          have j2 : (k : Int) < 3 + (l.length : Int) := by omega
          go_wp2_with fail
          refine (works_any _ h3).mono ?_; rintro e w5 ⟨rfl, k5⟩
          go_wp2_with fail
          go_ret
          exact ⟨rfl, kk3.then k5 (by simp)⟩
        · by_cases j1 : (3 : Int) ≤ (k : Int)
          · have j2 : ¬ (k : Int) < 3 + (l.length : Int) := by omega
            go_wp2_with fail
            refine (works_any _ h3).mono ?_; rintro e w5 ⟨rfl, k5⟩
            go_wp2_with fail
            go_ret
            exact ⟨rfl, kk3.then k5 (by simp)⟩
          · go_wp2_with fail
            refine (works_any _ h3).mono ?_; rintro e w5 ⟨rfl, k5⟩
            go_wp2_with fail
            go_ret
            exact ⟨rfl, kk3.then k5 (by simp)⟩
      | false =>
        have hne : (v == l) = false := by
          cases hx : (v == l) with
          | false => rfl
          | true => exact absurd ⟨rfl, rfl, by simpa using hx⟩ HN.out
        have HE := Lib.hid hne
        clear hne
        rcases hins with ⟨i1, i2⟩ | i12
        · have hvl : ((v.length : Int) == (l.length : Int)) = true := by simp; exact_mod_cast (HI.out i1 i2).2
          have j1 : (3 : Int) ≤ (k : Int) := by omega
          have j2 : (k : Int) < 3 + (l.length : Int) := by omega
          go_wp2_with fail
          refine (eqBytes_n _ _ g3 g _ _ v.length l.length v l _ rfl rfl t3 s3).mono ?_; rintro e w4 ⟨rfl, rfl⟩
          rw [HE.out]
          go_wp2_with fail
          refine (works_any _ h3).mono ?_; rintro e w5 ⟨rfl, k5⟩
          go_wp2_with fail
          go_ret
          exact ⟨rfl, kk3.then k5 (by simp)⟩
        · by_cases j1 : (3 : Int) ≤ (k : Int)
          · have j2 : ¬ (k : Int) < 3 + (l.length : Int) := by omega
            go_wp2_with fail
            refine (eqBytes_n _ _ g3 g _ _ v.length l.length v l _ rfl rfl t3 s3).mono ?_; rintro e w4 ⟨rfl, rfl⟩
            rw [HE.out]
            go_wp2_with fail
            refine (works_any _ h3).mono ?_; rintro e w5 ⟨rfl, k5⟩
            go_wp2_with fail
            go_ret
            exact ⟨rfl, kk3.then k5 (by simp)⟩
          · go_wp2_with fail
            refine (eqBytes_n _ _ g3 g _ _ v.length l.length v l _ rfl rfl t3 s3).mono ?_; rintro e w4 ⟨rfl, rfl⟩
            rw [HE.out]
            go_wp2_with fail
            refine (works_any _ h3).mono ?_; rintro e w5 ⟨rfl, k5⟩
            go_wp2_with fail
            go_ret
            exact ⟨rfl, kk3.then k5 (by simp)⟩
    · have d1 : (f == 0) = false := by simpa using hf0
      rcases hins with ⟨i1, i2⟩ | i12
      · exact absurd (HI.out i1 i2).1 hf0
      · by_cases j1 : (3 : Int) ≤ (k : Int)
        · have j2 : ¬ (k : Int) < 3 + (l.length : Int) := by omega
          clear hf0
          go_wp2_with fail
          refine (works_any _ h3).mono ?_; rintro e w5 ⟨rfl, k5⟩
          go_wp2_with fail
          go_ret
          exact ⟨rfl, kk3.then k5 (by simp)⟩
        · clear hf0
          go_wp2_with fail
          refine (works_any _ h3).mono ?_; rintro e w5 ⟨rfl, k5⟩
          go_wp2_with fail
          go_ret
          exact ⟨rfl, kk3.then k5 (by simp)⟩
end Go.Proofs.YtaclpogcedgojaaDoor
