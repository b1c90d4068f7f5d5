/-
  PURE: what was written is read as it was.
-/
import Derived.Test.YtgbobdlaahcjoaaNumAgain
namespace Go.Proofs.Ytgbobdlaahcjoaa
open Go.RowKit
set_option linter.unusedVariables false

theorem beBytes_succ (m n : Nat) : beBytes (m + 1) n = beBytes m (n / 256) ++ [UInt8.ofNat (n % 256)] := by
  unfold beBytes
  rw [List.range_succ, List.map_append]
  congr 1
  · apply List.map_congr_left
    intro i hi
    have hi := List.mem_range.1 hi
    have : m + 1 - 1 - i = (m - 1 - i) + 1 := by omega
    rw [this, Nat.pow_succ, Nat.mul_comm, ← Nat.div_div_eq_div_mul]
  · simp
theorem be_append (l : List UInt8) (b : UInt8) : be (l ++ [b]) = be l * 256 + b.toNat := by simp [be, List.foldl_append]
theorem be_beBytes : ∀ (m n : Nat), n < 256 ^ m → be (beBytes m n) = n := by
  intro m
  induction m with
  | zero => intro n h; simp [beBytes, be]; omega
  | succ m ih =>
    intro n h
    rw [beBytes_succ, be_append, ih (n / 256) (by rw [Nat.pow_succ] at h; omega), UInt8.toNat_ofNat']
    omega
theorem num_back (k a : Nat) (rest : List UInt8) (hk : isW (k : Int) = true) (ha : a < 256 ^ k) (hm : a ≤ mxN) :
    (RS.mk (beBytes k a ++ rest) 0).num (k : Int) = ((a : Int), ⟨rest, 0⟩) := by
  have hl := beBytes_length k a
  have ht : (RS.mk (beBytes k a ++ rest) 0).take k = beBytes k a := by
    unfold RS.take
    rw [if_pos ⟨rfl, by simp [hl]⟩]
    simp only
    rw [List.take_left' hl]
  have hp : (RS.mk (beBytes k a ++ rest) 0).past k = ⟨rest, 0⟩ := by
    unfold RS.past
    rw [if_pos rfl, if_pos (by simp [hl])]
    simp only
    rw [List.drop_left' hl]
  have hq : (RS.mk (beBytes k a ++ rest) 0).took k = true := by simp [RS.took, hl]
  unfold RS.num
  rw [if_pos hk, Int.toNat_natCast, if_pos hq, ht, hp, be_beBytes k a ha, if_neg (by omega)]
theorem cbHi_nil (m : Nat) : (cbHi m).length = 0 ↔ m = 0 := by
  have := cbHi_len 0 m
  simp at this
  rw [List.length_eq_zero_iff, this]
theorem cnt_high (most : Int) : ∀ (k m : Nat) (q : List UInt8), m ≤ k → (cbHi m).length ≤ 7 → cnt most (cbHi m ++ q) 0 0 = cnt most q (cbHi m).length m := by
  intro k
  induction k with
  | zero =>
    intro m q h1 h2
    obtain rfl : m = 0 := by omega
    simp [cbHi_zero]
  | succ k ih =>
    intro m q h1 h2
    rcases Nat.eq_zero_or_pos m with rfl | hm
    · simp [cbHi_zero]
    · have hb : (UInt8.ofNat (128 + m % 128)).toNat = 128 + m % 128 := by rw [UInt8.toNat_ofNat']; omega
      have hz := cbHi_nil (m / 128)
      rw [cbHi_pos m hm] at h2 ⊢
      simp only [List.length_append, List.length_cons, List.length_nil, Nat.zero_add] at h2 ⊢
      rw [List.append_assoc, ih (m / 128) _ (by omega) (by omega), List.singleton_append,
        cnt_on most q _ _ _ (by rw [hb]; intro h; omega) (by rw [hb]; omega) (by omega), hb]
      congr 1
      omega
theorem count_back (n : Nat) (most : Int) (rest : List UInt8) (hn : n ≤ mxN) (hm : (n : Int) ≤ most) : (RS.mk (cb n ++ rest) 0).count most = ((n : Int), ⟨rest, 0⟩) := by
  have hl := cb_len_le n hn
  have hl2 : (cb n).length = (cbHi (n / 128)).length + 1 := by simp [cb]
  have hb : (UInt8.ofNat (n % 128)).toNat = n % 128 := by rw [UInt8.toNat_ofNat']; omega
  unfold RS.count cb
  rw [if_pos rfl]
  simp only
  rw [List.append_assoc, cnt_high most (n / 128) (n / 128) _ (Nat.le_refl _) (by omega), List.singleton_append, cnt_last most rest _ _ _ (by rw [hb]; omega), hb]
  have : n / 128 * 128 + n % 128 % 128 = n := by omega
  rw [this]
  unfold bounded
  rw [if_neg (by omega), if_neg (by omega)]
theorem raw_back (t rest : List UInt8) : (RS.mk (t ++ rest) 0).raw (t.length : Int) = (t, ⟨rest, 0⟩) := by
  unfold RS.raw
  rw [if_neg (by omega), Int.toNat_natCast]
  simp [RS.take, RS.past]
theorem text_back (t rest : List UInt8) (most : Int) (h1 : t.length ≤ mxN) (h2 : (t.length : Int) ≤ most) : (RS.mk (cb t.length ++ t ++ rest) 0).text most = (t, ⟨rest, 0⟩) := by
  unfold RS.text
  rw [List.append_assoc, count_back t.length most _ h1 h2]
  exact raw_back t rest

/-! the rows of NumBack -/
def wd (j : Nat) : Nat := if j % 4 = 0 then 1 else if j % 4 = 1 then 2 else if j % 4 = 2 then 4 else 8
def topOf (j : Nat) : Nat := if j % 4 = 0 then 256 else if j % 4 = 1 then 65536 else if j % 4 = 2 then 4294967296 else 9007199254740992
theorem wd_ok (j : Nat) : isW (wd j : Int) = true := by unfold wd; split <;> (try split) <;> (try split) <;> rfl
theorem top_ok (j : Nat) : topOf j ≤ 256 ^ wd j ∧ topOf j ≤ mxN + 1 ∧ 0 < topOf j := by
  unfold topOf wd mxN; split <;> (try split) <;> (try split) <;> simp
def aOf (j : Nat) (x : Int) : Nat := (x % (topOf j : Int)).toNat
def cOf (x : Int) : Nat := (x % 9007199254740992).toNat
def tOf (b : List UInt8) (x : Int) : List UInt8 := b.take (x % ((b.length : Int) + 1)).toNat
/-- what is written for the number x in place j -/
def encOne (b : List UInt8) (j : Nat) (x : Int) : List UInt8 := beBytes (wd j) (aOf j x) ++ (cb (cOf x) ++ (cb (tOf b x).length ++ tOf b x))
/-- for all numbers from place j on -/
def encAll (b : List UInt8) : Nat → List Int → List UInt8
  | _, [] => []
  | j, x :: xs => encOne b j x ++ encAll b (j + 1) xs
theorem aOf_eq (j : Nat) (x : Int) : x % (topOf j : Int) = (aOf j x : Int) := by
  have := (top_ok j).2.2
  have := Int.emod_nonneg x (show (topOf j : Int) ≠ 0 by omega)
  unfold aOf; omega
theorem aOf_lt (j : Nat) (x : Int) : aOf j x < topOf j := by
  have := (top_ok j).2.2
  have h := aOf_eq j x
  have := Int.emod_lt_of_pos x (show (0 : Int) < topOf j by omega)
  omega
theorem cOf_eq (x : Int) : x % 9007199254740992 = (cOf x : Int) := by unfold cOf; omega
theorem cOf_le (x : Int) : cOf x ≤ mxN := by unfold cOf mxN; omega
theorem tOf_le (b : List UInt8) (x : Int) : (x % ((b.length : Int) + 1)).toNat ≤ b.length := by
  have := Int.emod_lt_of_pos x (show (0 : Int) < (b.length : Int) + 1 by omega)
  have := Int.emod_nonneg x (show (b.length : Int) + 1 ≠ 0 by omega)
  omega
theorem tOf_len (b : List UInt8) (x : Int) : ((tOf b x).length : Int) = x % ((b.length : Int) + 1) := by
  have h := tOf_le b x
  have := Int.emod_nonneg x (show (b.length : Int) + 1 ≠ 0 by omega)
  unfold tOf
  rw [List.length_take]
  omega
theorem encOne_len (b : List UInt8) (j : Nat) (x : Int) (hb : b.length ≤ 50) : (encOne b j x).length ≤ 8 + 8 + 8 + 50 := by
  have h1 := cb_len_le (cOf x) (cOf_le x)
  have h2 := tOf_le b x
  have h3 : (tOf b x).length ≤ 50 := by unfold tOf; rw [List.length_take]; omega
  have h4 := cb_len_le (tOf b x).length (by unfold mxN; omega)
  have h5 : wd j ≤ 8 := by unfold wd; split <;> (try split) <;> (try split) <;> omega
  unfold encOne
  simp only [List.length_append, beBytes_length]
  omega
theorem encAll_len (b : List UInt8) (hb : b.length ≤ 50) : ∀ (xs : List Int) (j : Nat), (encAll b j xs).length ≤ 74 * xs.length := by
  intro xs
  induction xs with
  | nil => intro j; simp [encAll]
  | cons x xs ih =>
    intro j
    have := ih (j + 1)
    have := encOne_len b j x hb
    simp only [encAll, List.length_append, List.length_cons]
    omega
theorem encAll_snoc (b : List UInt8) : ∀ (xs : List Int) (j : Nat) (x : Int), encAll b j (xs ++ [x]) = encAll b j xs ++ encOne b (j + xs.length) x := by
  intro xs
  induction xs with
  | nil => intro j x; simp [encAll]
  | cons y ys ih =>
    intro j x
    simp only [List.cons_append, encAll, List.length_cons]
    rw [ih (j + 1) x, List.append_assoc, show j + 1 + ys.length = j + (ys.length + 1) by omega]
end Go.Proofs.Ytgbobdlaahcjoaa
