/-
  PURE: what was written is read as it was (NumBackPure without the rows of NumBack).
-/
import Derived.Test.YthfdkonhjpdflaaDoorWriter2
import Derived.Test.YthfdkonhjpdflaaDoorReader3
namespace Go.Proofs.YthfdkonhjpdflaaDoor
open Go.RowKit
set_option linter.unusedVariables false

theorem beBytes_succ (m n : Nat) : beBytes (m + 1) n = beBytes m (n / 256) ++ [UInt8.ofNat (n % 256)] := by
  unfold beBytes
  rw [List.range_succ, List.map_append]
  congr 1
  · apply List.map_congr_left
    intro i hi
    have hi := List.mem_range.1 hi
    have : m + 1 - 1 - i = (m - 1 - i) + 1 := by omega
    rw [this, Nat.pow_succ, Nat.mul_comm, ← Nat.div_div_eq_div_mul]
  · simp
theorem be_append (l : List UInt8) (b : UInt8) : be (l ++ [b]) = be l * 256 + b.toNat := by simp [be, List.foldl_append]
theorem be_beBytes : ∀ (m n : Nat), n < 256 ^ m → be (beBytes m n) = n := by
  intro m
  induction m with
  | zero => intro n h; simp [beBytes, be]; omega
  | succ m ih =>
    intro n h
    rw [beBytes_succ, be_append, ih (n / 256) (by rw [Nat.pow_succ] at h; omega), UInt8.toNat_ofNat']
    omega
theorem num_back (k a : Nat) (rest : List UInt8) (hk : isW (k : Int) = true) (ha : a < 256 ^ k) (hm : a ≤ mxN) :
    (RS.mk (beBytes k a ++ rest) 0).num (k : Int) = ((a : Int), ⟨rest, 0⟩) := by
  have hl := beBytes_length k a
  have ht : (RS.mk (beBytes k a ++ rest) 0).take k = beBytes k a := by
    unfold RS.take
    rw [if_pos ⟨rfl, by simp [hl]⟩]
    simp only
    rw [List.take_left' hl]
  have hp : (RS.mk (beBytes k a ++ rest) 0).past k = ⟨rest, 0⟩ := by
    unfold RS.past
    rw [if_pos rfl, if_pos (by simp [hl])]
    simp only
    rw [List.drop_left' hl]
  have hq : (RS.mk (beBytes k a ++ rest) 0).took k = true := by simp [RS.took, hl]
  unfold RS.num
  rw [if_pos hk, Int.toNat_natCast, if_pos hq, ht, hp, be_beBytes k a ha, if_neg (by omega)]
theorem cbHi_nil (m : Nat) : (cbHi m).length = 0 ↔ m = 0 := by
  have := cbHi_len 0 m
  simp at this
  rw [List.length_eq_zero_iff, this]
theorem cnt_high (most : Int) : ∀ (k m : Nat) (q : List UInt8), m ≤ k → (cbHi m).length ≤ 7 → cnt most (cbHi m ++ q) 0 0 = cnt most q (cbHi m).length m := by
  intro k
  induction k with
  | zero =>
    intro m q h1 h2
    obtain rfl : m = 0 := by omega
    simp [cbHi_zero]
  | succ k ih =>
    intro m q h1 h2
    rcases Nat.eq_zero_or_pos m with rfl | hm
    · simp [cbHi_zero]
    · have hb : (UInt8.ofNat (128 + m % 128)).toNat = 128 + m % 128 := by rw [UInt8.toNat_ofNat']; omega
      have hz := cbHi_nil (m / 128)
      rw [cbHi_pos m hm] at h2 ⊢
      simp only [List.length_append, List.length_cons, List.length_nil, Nat.zero_add] at h2 ⊢
      rw [List.append_assoc, ih (m / 128) _ (by omega) (by omega), List.singleton_append,
        cnt_on most q _ _ _ (by rw [hb]; intro h; omega) (by rw [hb]; omega) (by omega), hb]
      congr 1
      omega
theorem count_back (n : Nat) (most : Int) (rest : List UInt8) (hn : n ≤ mxN) (hm : (n : Int) ≤ most) : (RS.mk (cb n ++ rest) 0).count most = ((n : Int), ⟨rest, 0⟩) := by
  have hl := cb_len_le n hn
  have hl2 : (cb n).length = (cbHi (n / 128)).length + 1 := by simp [cb]
  have hb : (UInt8.ofNat (n % 128)).toNat = n % 128 := by rw [UInt8.toNat_ofNat']; omega
  unfold RS.count cb
  rw [if_pos rfl]
  simp only
  rw [List.append_assoc, cnt_high most (n / 128) (n / 128) _ (Nat.le_refl _) (by omega), List.singleton_append, cnt_last most rest _ _ _ (by rw [hb]; omega), hb]
  have : n / 128 * 128 + n % 128 % 128 = n := by omega
  rw [this]
  unfold bounded
  rw [if_neg (by omega), if_neg (by omega)]
theorem raw_back (t rest : List UInt8) : (RS.mk (t ++ rest) 0).raw (t.length : Int) = (t, ⟨rest, 0⟩) := by
  unfold RS.raw
  rw [if_neg (by omega), Int.toNat_natCast]
  simp [RS.take, RS.past]
theorem text_back (t rest : List UInt8) (most : Int) (h1 : t.length ≤ mxN) (h2 : (t.length : Int) ≤ most) : (RS.mk (cb t.length ++ t ++ rest) 0).text most = (t, ⟨rest, 0⟩) := by
  unfold RS.text
  rw [List.append_assoc, count_back t.length most _ h1 h2]
  exact raw_back t rest

end Go.Proofs.YthfdkonhjpdflaaDoor
