/-
  BITS: what the program's masks, shifts and ors of bytes come to. No number of the program stands here.
-/
import Derived.Test.YthfdkonhjpdflaaDoorBase
namespace Go.Proofs.YthfdkonhjpdflaaDoor

theorem wraps_u64 (n : Int) (h0 : 0 ≤ n) (h1 : n < 2 ^ 64) : IntKind.u64.wrap n = n := by rw [IntKind.wrap_u64]; omega
theorem wraps_i64 (n : Int) (h0 : 0 ≤ n) (h1 : n < 2 ^ 63) : IntKind.i64.wrap n = n := by rw [IntKind.wrap_i64]; omega

theorem or_u64_byte (x b : Nat) (hx : x < 2 ^ 56) (hb : b < 256) :
    bits .or .u64 (IntKind.u64.wrap ((x : Int) * 256)) (IntKind.u64.wrap (b : Int)) = ((x * 256 + b : Nat) : Int) := by
  rw [wraps_u64 _ (by omega) (by omega), wraps_u64 _ (by omega) (by omega),
    bits_join .u64 64 (by decide) wraps_u64 8 _ _ (by omega) (by omega) (by omega) (by omega) (by omega) (by omega)]
  omega
theorem or_i64_seven (x b : Nat) (hx : x < 2 ^ 55) (hb : b < 128) :
    bits .or .i64 ((x : Int) * 128) (b : Int) = ((x * 128 + b : Nat) : Int) := by
  rw [bits_join .i64 63 (by decide) wraps_i64 7 _ _ (by omega) (by omega) (by omega) (by omega) (by omega) (by omega)]
  omega
theorem and_u8_127 (b : Nat) (hb : b < 256) : bits .and .u8 (b : Int) 127 = ((b % 128 : Nat) : Int) := by
  have := bits_mask .u8 8 (by decide) wraps_u8 7 (by decide) (b : Int) (by omega) (by omega)
  rw [show ((127 : Int)) = 2 ^ 7 - 1 from rfl, this]
  omega
theorem or_u8_128 (b : Nat) (hb : b < 128) : bits .or .u8 (b : Int) 128 = ((128 + b : Nat) : Int) := by
  have h := (bits_nat .u8 8 (by decide) wraps_u8 b 128 (by omega) (by omega)).2
  rw [show ((128 : Int)) = ((128 : Nat) : Int) from rfl, h, Nat.or_comm]
  have := Nat.two_pow_add_eq_or_of_lt (i := 7) (show b < 2 ^ 7 by omega) 1
  simp at this
  rw [← this]
end Go.Proofs.YthfdkonhjpdflaaDoor
