/-
  NumOrder: greater counts have no fewer bytes, and of as many bytes come behind in byte order.
-/
import Derived.Test.YtgbobdlaahcjoaaWorks
import Derived.ProofKit
import Derived.OpenShut
namespace Go.Proofs.Ytgbobdlaahcjoaa
open Go.RowKit
set_option linter.unusedVariables false

theorem cbHi_le_len (n m : Nat) (h : n ≤ m) : (cbHi n).length ≤ (cbHi m).length := by
  have h1 := (cbHi_len (cbHi m).length m).1 (Nat.le_refl _)
  exact (cbHi_len _ _).2 (by omega)
theorem cb_le_len (n m : Nat) (h : n ≤ m) : (cb n).length ≤ (cb m).length := by
  unfold cb
  have := cbHi_le_len (n / 128) (m / 128) (Nat.div_le_div_right h)
  simp; omega
theorem less_append : ∀ (x y : List UInt8) (u v : List UInt8), x.length = y.length → Op.bytesLess x y = true → Op.bytesLess (x ++ u) (y ++ v) = true := by
  intro x
  induction x with
  | nil => intro y u v h h2; cases y with
    | nil => simp [Op.bytesLess] at h2
    | cons b y => simp at h
  | cons a x ih =>
    intro y u v h h2
    cases y with
    | nil => simp at h
    | cons b y =>
      simp only [List.cons_append, Op.bytesLess, Bool.or_eq_true, Bool.and_eq_true] at h2 ⊢
      rcases h2 with h2 | ⟨h2, h3⟩
      · exact .inl h2
      · exact .inr ⟨h2, ih y u v (by simpa using h) h3⟩
theorem less_same : ∀ (x u v : List UInt8), Op.bytesLess u v = true → Op.bytesLess (x ++ u) (x ++ v) = true := by
  intro x
  induction x with
  | nil => intro u v h; simpa using h
  | cons a x ih => intro u v h; simp [Op.bytesLess, ih u v h]
theorem less_one (a b : Nat) (h : a < b) (hb : b < 256) : Op.bytesLess [UInt8.ofNat a] [UInt8.ofNat b] = true := by
  simp [Op.bytesLess, UInt8.lt_iff_toNat_lt]
  omega
theorem cbHi_less : ∀ (k n m : Nat), m ≤ k → n < m → (cbHi n).length = (cbHi m).length → Op.bytesLess (cbHi n) (cbHi m) = true := by
  intro k
  induction k with
  | zero => intro n m h1 h2; omega
  | succ k ih =>
    intro n m h1 h2 h3
    rw [cbHi_pos m (by omega)] at h3 ⊢
    rcases Nat.eq_zero_or_pos n with rfl | hn
    · rw [cbHi_zero] at h3; simp at h3
    · rw [cbHi_pos n hn] at h3 ⊢
      simp only [List.length_append, List.length_cons, List.length_nil, Nat.zero_add, Nat.add_right_cancel_iff] at h3
      by_cases he : n / 128 = m / 128
      · rw [he]
        exact less_same _ _ _ (less_one _ _ (by omega) (by omega))
      · exact less_append _ _ _ _ h3 (ih _ _ (by omega) (by have := Nat.div_le_div_right (c := 128) (Nat.le_of_lt h2); omega) h3)
theorem cb_less (n m : Nat) (h : n < m) (hl : (cb n).length = (cb m).length) : Op.bytesLess (cb n) (cb m) = true := by
  unfold cb at hl ⊢
  simp only [List.length_append, List.length_cons, List.length_nil, Nat.zero_add, Nat.add_right_cancel_iff] at hl
  by_cases he : n / 128 = m / 128
  · rw [he]
    exact less_same _ _ _ (less_one _ _ (by omega) (by omega))
  · exact less_append _ _ _ _ hl (cbHi_less _ _ _ (Nat.le_refl _) (by have := Nat.div_le_div_right (c := 128) (Nat.le_of_lt h); omega) hl)

theorem count_bytes (k : Nat) (h : k < 9007199254740992) : ((WS.mk [] 0).count (k : Int)).bytes = cb k := by
  unfold WS.count
  rw [if_pos rfl, if_neg (by unfold mxN; omega)]
  simp [WS.bytes]

set_option maxRecDepth 100000 in
set_option maxHeartbeats 2000000 in
theorem numOrder_walk (a b : Int) (w : World) (ha : -9223372036854775808 ≤ a ∧ a ≤ 9223372036854775807) (hb : -9223372036854775808 ≤ b ∧ b ≤ 9223372036854775807) :
    Calls Try.prog 6 #[.int .i64 a, .int .i64 b] w (yesPost w) := by
  obtain ⟨m, hm⟩ : ∃ m : Nat, a % 9007199254740992 = (m : Int) := ⟨(a % 9007199254740992).toNat, by omega⟩
  obtain ⟨n, hn⟩ : ∃ n : Nat, b % 9007199254740992 = (n : Int) := ⟨(b % 9007199254740992).toNat, by omega⟩
  have hm2 : m < 9007199254740992 := by omega
  have hn2 : n < 9007199254740992 := by omega
  have HM := Lib.hid hm
  have HN := Lib.hid hn
  clear hm hn
  have cM := cb_len_le m (by unfold mxN; omega)
  have cN := cb_len_le n (by unfold mxN; omega)
  go_enter Try.func6, Try.ntmps6
  go_wp2_with fail
  refine (bring_any _ _ ha.1 ha.2 (by omega) (by omega) _).mono ?_; rintro e w' ⟨rfl, rfl⟩; rw [HM.out]
  go_wp2_with fail
  refine (bring_any _ _ hb.1 hb.2 (by omega) (by omega) _).mono ?_; rintro e w' ⟨rfl, rfl⟩; rw [HN.out]
  go_wp2_with fail
  refine (count_fn _ _).mono ?_; rintro e w1 ⟨v1, rfl, ho1, hf1, hk1⟩
  rw [count_bytes m hm2] at ho1
  go_wp2_with fail
  refine (count_fn _ _).mono ?_; rintro e w2 ⟨v2, rfl, ho2, hf2, hk2⟩
  rw [count_bytes n hn2] at ho2
  have ho1' := ho1.keep hk2 (by simp)
  have k2 := hk1.then hk2 (by simp)
  obtain ⟨A1, c1, g1, rfl, _, _, hs1, _⟩ := ho1'.seen
  obtain ⟨A2, c2, g2, rfl, _, _, hs2, _⟩ := ho2.seen
  clear ho1 ho1' ho2 hf1 hf2 hk1 hk2
  rcases Nat.lt_trichotomy m n with hlt | rfl | hgt
  · have hsw : ¬ (n : Int) < (m : Int) := by omega
    have hne : (((m : Nat) : Int) == ((n : Nat) : Int)) = false := by simp; omega
    have hle := cb_le_len m n (Nat.le_of_lt hlt)
    by_cases hll : (cb m).length < (cb n).length
    · go_wp2_with fail
      refine (works_any _).mono ?_; rintro e w3 ⟨rfl, hk3⟩
      go_wp2_with fail
      go_ret
      exact ⟨rfl, k2.then hk3 (by simp)⟩
    · have heq : (cb m).length = (cb n).length := by omega
      have hless := cb_less m n hlt heq
      have HL := Lib.hid hless
      have HE := Lib.hid heq
      have he1 : (((cb m).length : Int) == ((cb n).length : Int)) = true := by rw [heq]; simp
      clear hless heq
      have q1 := convert_seen (P := Try.prog) w2 27 5 9 Try.underlying27 Try.underlying5 Try.underlying9 A1 g1 c1 _ hs1
      have q2 := convert_seen (P := Try.prog) w2 27 5 9 Try.underlying27 Try.underlying5 Try.underlying9 A2 g2 c2 _ hs2
      have q3 : Op.bytesLess (strOf (cb m)).toList (strOf (cb n)).toList = true := by rw [strOf_list, strOf_list]; exact HL.out
      go_wp2_with fail
      refine (works_any _).mono ?_; rintro e w3 ⟨rfl, hk3⟩
      go_wp2_with fail
      go_ret
      exact ⟨rfl, k2.then hk3 (by simp)⟩
  · have hmm : ¬ (m : Int) < (m : Int) := by omega
    go_wp2_with fail
    refine (eqBytes_any _ _ _ _ _ _ _ _ _ hs1 hs2).mono ?_; rintro e w' ⟨rfl, rfl⟩
    rw [show (cb m == cb m) = true from by simp]
    go_wp2_with fail
    refine (works_any _).mono ?_; rintro e w3 ⟨rfl, hk3⟩
    go_wp2_with fail
    go_ret
    exact ⟨rfl, k2.then hk3 (by simp)⟩
  · have hsw : (n : Int) < (m : Int) := by omega
    have hne : (((n : Nat) : Int) == ((m : Nat) : Int)) = false := by simp; omega
    have hle := cb_le_len n m (Nat.le_of_lt hgt)
    by_cases hll : (cb n).length < (cb m).length
    · go_wp2_with fail
      refine (works_any _).mono ?_; rintro e w3 ⟨rfl, hk3⟩
      go_wp2_with fail
      go_ret
      exact ⟨rfl, k2.then hk3 (by simp)⟩
    · have heq : (cb n).length = (cb m).length := by omega
      have hless := cb_less n m hgt heq
      have HL := Lib.hid hless
      have HE := Lib.hid heq
      have he1 : (((cb n).length : Int) == ((cb m).length : Int)) = true := by rw [heq]; simp
      clear hless heq
      have q1 := convert_seen (P := Try.prog) w2 27 5 9 Try.underlying27 Try.underlying5 Try.underlying9 A2 g2 c2 _ hs2
      have q2 := convert_seen (P := Try.prog) w2 27 5 9 Try.underlying27 Try.underlying5 Try.underlying9 A1 g1 c1 _ hs1
      have q3 : Op.bytesLess (strOf (cb n)).toList (strOf (cb m)).toList = true := by rw [strOf_list, strOf_list]; exact HL.out
      go_wp2_with fail
      refine (works_any _).mono ?_; rintro e w3 ⟨rfl, hk3⟩
      go_wp2_with fail
      go_ret
      exact ⟨rfl, k2.then hk3 (by simp)⟩
theorem bd_i64 {a : Int} (h : (Lit.int .i64 a).wf = true) : -9223372036854775808 ≤ a ∧ a ≤ 9223372036854775807 := by
  simpa [Lit.wf, IntKind.min, IntKind.max, IntKind.signed, IntKind.bits] using h
theorem numOrder_law (a b : Int) (w : World) (ha : (Lit.int .i64 a).wf = true) (hb : (Lit.int .i64 b).wf = true) :
    Calls Try.prog 6 #[.int .i64 a, .int .i64 b] w (yesPost w) := numOrder_walk a b w (bd_i64 ha) (bd_i64 hb)
end Go.Proofs.Ytgbobdlaahcjoaa
