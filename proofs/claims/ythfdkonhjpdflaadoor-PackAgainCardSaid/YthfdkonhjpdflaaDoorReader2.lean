/-
  THE READER of package num: Num, Count, Raw, Text, Left, Err, End.
-/
import Derived.Test.YthfdkonhjpdflaaDoorReader
import Derived.Test.YthfdkonhjpdflaaDoorBits
import Derived.Handy
namespace Go.Proofs.YthfdkonhjpdflaaDoor
open Go.RowKit
set_option linter.unusedVariables false

theorem be_snoc (l : List UInt8) (k : Nat) (b : UInt8) (h : l[k]? = some b) : be (l.take (k + 1)) = be (l.take k) * 256 + b.toNat := by
  rw [List.take_add_one, h]
  simp [be, List.foldl_append]
theorem be_lt (l : List UInt8) : be l < 256 ^ l.length := by
  have key : ∀ (l : List UInt8) (n m : Nat), n < 256 ^ m → l.foldl (fun n b => n * 256 + b.toNat) n < 256 ^ (m + l.length) := by
    intro l
    induction l with
    | nil => intro n m h; simpa using h
    | cons b t ih =>
      intro n m h
      have := ih (n * 256 + b.toNat) (m + 1) (by have := b.toNat_lt; rw [Nat.pow_succ]; omega)
      simp only [List.foldl_cons, List.length_cons]
      rw [show m + (t.length + 1) = m + 1 + t.length by omega]
      exact this
  simpa [be] using key l 0 0 (by simp)
theorem be_take_lt (l : List UInt8) (k : Nat) (hk : k ≤ 7) : be (l.take k) < 2 ^ 56 := by
  have h := be_lt (l.take k)
  have h2 : 256 ^ (l.take k).length ≤ 256 ^ 7 := Nat.pow_le_pow_right (by decide) (by have := List.length_take_le k l; omega)
  have : (256 : Nat) ^ 7 = 2 ^ 56 := by decide
  omega
theorem be_lt64 (l : List UInt8) (hl : l.length ≤ 8) : be l < 2 ^ 64 := by
  have h := be_lt l
  have h2 : 256 ^ l.length ≤ 256 ^ 8 := Nat.pow_le_pow_right (by decide) hl
  have : (256 : Nat) ^ 8 = 2 ^ 64 := by decide
  omega

set_option maxHeartbeats 400000 in
theorem isWidth_any (n : Int) (w : World) : Calls Tryd.prog 69 #[.int .i64 n] w fun e w' => e = .returned (.bool (isW n)) ∧ w = w' := by
  by_cases h1 : n = 1
  · subst h1
    go_enter Tryd.func69, Tryd.ntmps69
    go_wp2
    go_ret
    exact ⟨rfl, rfl⟩
  by_cases h2 : n = 2
  · subst h2
    go_enter Tryd.func69, Tryd.ntmps69
    go_wp2
    go_ret
    exact ⟨rfl, rfl⟩
  by_cases h4 : n = 4
  · subst h4
    go_enter Tryd.func69, Tryd.ntmps69
    go_wp2
    go_ret
    exact ⟨rfl, rfl⟩
  · have e1 : (n == 1) = false := by simp [h1]
    have e2 : (n == 2) = false := by simp [h2]
    have e4 : (n == 4) = false := by simp [h4]
    have hw : isW n = (n == 8) := by simp [isW, h1, h2, h4]
    have HW := Lib.hid hw
    clear hw
    go_enter Tryd.func69, Tryd.ntmps69
    go_wp2
    go_ret
    exact ⟨by rw [HW.out]; rfl, rfl⟩

theorem isW_cases {n : Int} (h : isW n = true) : n = 1 ∨ n = 2 ∨ n = 4 ∨ n = 8 := by
  simpa [isW, or_assoc] using h

def numPost (p g : Nat) (r : RS) (n : Int) (w : World) (e : Ending) (w' : World) : Prop :=
  e = .returned (.int .i64 (r.num n).1) ∧ isR w' p g (r.num n).2 ∧ keepBut [p] w w'

set_option maxHeartbeats 400000 in
theorem num_any (p g : Nat) (r : RS) (n : Int) (w : World) (h : isR w p g r) :
    Calls Tryd.prog 39 #[.pointer (some ⟨p, 0, none⟩), .int .i64 n] w (numPost p g r n w) := by
  by_cases hw : isW n = true
  · obtain ⟨m, rfl⟩ : ∃ m : Nat, n = (m : Int) := ⟨n.toNat, by rcases isW_cases hw with h | h | h | h <;> omega⟩
    have hm : 1 ≤ m ∧ m ≤ 8 := by rcases isW_cases hw with h | h | h | h <;> omega
    by_cases ht : r.took m = true
    · have hl : (r.take m).length = m := by
        rw [RS.took_iff] at ht; rw [RS.take, if_pos ht, List.length_take]; omega
      have HL := Lib.hid hl
      have HT := Lib.hid ht
      clear hl
      go_enter Tryd.func39, Tryd.ntmps39
      go_wp2_with (first | (go_at_call 69; refine (isWidth_any _ _).mono ?_; rintro e w' ⟨rfl, rfl⟩) | (go_at_call 72; refine (take_any p g r m _ h).mono ?_; rintro e w1 ⟨A, c, rfl, hk1, hk2, hs, hi, hk⟩))
      generalize hgl : r.take m = l at *
      obtain ⟨o, rfl, hlt, hc⟩ := hs (by rintro rfl; have := HL.out; simp at this; omega)
      go_loop [7, 23] (fun n i => ∃ k : Nat, k ≤ m ∧ i = .int .i64 k ∧ n = .int .u64 (be (l.take k))) (fun _ i => m - (intOf i).toNat)
      case atStart => exact ⟨0, Nat.zero_le _, rfl, rfl⟩
      case round =>
        obtain ⟨k, hkm, rfl, rfl⟩ := hrel
        by_cases hlt2 : k < m
        · have hkl : k < l.length := by rw [HL.out]; exact hlt2
          have hb : ∃ b, l[k]? = some b := ⟨l[k]'hkl, by simp⟩
          obtain ⟨b, hb⟩ := hb
          have hcell := hc k b hb
          unfold bv at hcell
          have HB := Lib.hid (be_snoc l k b hb)
          have HO := Lib.hid (or_u64_byte (be (l.take k)) b.toNat (be_take_lt l k (by omega)) b.toNat_lt)
          clear hc hb hs
          go_wp2
          go_round
          case rel => exact ⟨k + 1, by omega, by go_num, by rw [HO.out, HB.out]⟩
          case measure => simp [intOf]; omega
        · obtain rfl : k = m := by omega
          have hlk : l.take k = l := List.take_of_length_le (by rw [HL.out]; exact Nat.le_refl _)
          have hbl := be_lt64 l (by rw [HL.out]; omega)
          rw [hlk]
          clear hlk hc hs
          have HG := Lib.hid hgl
          clear hgl
          by_cases hmx : mxN < be l
          · have hmx' : (9007199254740991 : Int) < (be l : Int) := by unfold mxN at hmx; omega
            go_wp2_with (go_at_call 71; refine (fail_any p g _ _ _ hi).mono ?_; rintro e w' ⟨rfl, hi', hk'⟩)
            go_ret
            have hn : r.num (k : Int) = (0, (r.past k).fail 9) := by
              unfold RS.num
              rw [if_pos hw, Int.toNat_natCast, if_pos HT.out, HG.out, if_pos hmx]
            exact ⟨by rw [hn]; rfl, by rw [hn]; exact hi', hk.then hk' (by simp)⟩
          · have hmx' : ¬ (9007199254740991 : Int) < (be l : Int) := by unfold mxN at hmx; omega
            go_wp2
            go_ret
            have hn : r.num (k : Int) = (((be l : Nat) : Int), r.past k) := by
              unfold RS.num
              rw [if_pos hw, Int.toNat_natCast, if_pos HT.out, HG.out, if_neg hmx]
            exact ⟨by rw [hn]; go_num, by rw [hn]; exact hi, hk⟩
    · have HT := Lib.hid ht
      have HF : r.took m = false := by simpa using ht
      have HF' := Lib.hid HF
      clear HF ht
      go_enter Tryd.func39, Tryd.ntmps39
      go_wp2_with (first | (go_at_call 69; refine (isWidth_any _ _).mono ?_; rintro e w' ⟨rfl, rfl⟩) | (go_at_call 72; refine (take_any p g r m _ h).mono ?_; rintro e w1 ⟨A, c, rfl, hk1, hk2, hs, hi, hk⟩; rw [HF'.out]))
      go_ret
      have hn : r.num (m : Int) = (0, r.past m) := by
        unfold RS.num
        rw [if_pos hw, Int.toNat_natCast, if_neg HT.out]
      exact ⟨by rw [hn]; rfl, by rw [hn]; exact hi, hk⟩
  · have HW := Lib.hid hw
    have hw' : isW n = false := by simpa using hw
    clear hw
    go_enter Tryd.func39, Tryd.ntmps39
    go_wp2_with (first | (go_at_call 69; refine (isWidth_any _ _).mono ?_; rintro e w' ⟨rfl, rfl⟩) | (go_at_call 71; refine (fail_any p g _ _ _ h).mono ?_; rintro e w' ⟨rfl, hi', hk'⟩))
    go_ret
    have hn : r.num n = (0, r.fail 2) := by
      unfold RS.num
      rw [if_neg HW.out]
    exact ⟨by rw [hn]; rfl, by rw [hn]; exact hi', hk'⟩
end Go.Proofs.YthfdkonhjpdflaaDoor
