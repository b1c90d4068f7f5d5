/-
  LOW2: Reader, Reader2, Reader3, joined.
-/
import Derived.Test.YtmlmhnhilemjhaaDoorLow1
import Derived.Handy
section
namespace Go.Proofs.YtmlmhnhilemjhaaDoor
open Go.RowKit
set_option linter.unusedVariables false

/-- block p is a reader that stands at r; its bytes lie in block g -/
def isR (w : World) (p g : Nat) (r : RS) : Prop :=
  ∃ A c, rowAt w p 111 #[.slice A r.l.length c, .int .i64 r.e] ∧ r.l.length ≤ c ∧ c ≤ maxLen ∧ seen w A g r.l ∧ (r.l ≠ [] → g ≠ p)

theorem isR.keep {S : List Nat} {w w' : World} {p g : Nat} {r : RS} (h : isR w p g r) (hk : keepBut S w w') (hp : p ∉ S) (hg : r.l ≠ [] → g ∉ S) : isR w' p g r := by
  obtain ⟨A, c, h1, h2, h3, h4, h5⟩ := h
  exact ⟨A, c, hk.row h1 hp, h2, h3, h4.keep hk hg, h5⟩
theorem isR.lt {w : World} {p g : Nat} {r : RS} (h : isR w p g r) : p < w.heap.size := by
  obtain ⟨A, c, h1, _⟩ := h; exact h1.lt

def failPost (p g : Nat) (r : RS) (x : Int) (w : World) (e : Ending) (w' : World) : Prop :=
  e = .returned (.tuple #[]) ∧ isR w' p g (r.fail x) ∧ keepBut [p] w w'

set_option maxHeartbeats 400000 in
theorem fail_any (p g : Nat) (r : RS) (x : Int) (w : World) (h : isR w p g r) :
    Calls Tryd.prog 61 #[.pointer (some ⟨p, 0, none⟩), .int .i64 x] w (failPost p g r x w) := by
  obtain ⟨A, c, h1, h2, h3, h4, h5⟩ := h
  have hc0 : w.cell? ⟨p, 0, none⟩ = some (.slice A r.l.length c) := h1.cell 0
  have hc1 : w.cell? ⟨p, 1, none⟩ = some (.int .i64 r.e) := h1.cell 1
  have hf0 := h1.free 0
  have hf1 := h1.free 1
  by_cases he : r.e = 0
  · have he' : (r.e == 0) = true := by simp [he]
    have H := Lib.hid he
    clear he
    go_enter Tryd.func61, Tryd.ntmps61
    go_wp2
    go_end0
    refine ⟨rfl, ⟨none, 0, ?_, ?_, ?_, ?_, by simp only [RS.fail, if_pos H.out]; exact fun h => absurd rfl h⟩, ((keepBut.refl _ _).setCell _ _ (by simp)).setCell _ _ (by simp)⟩
    · simp only [RS.fail, if_pos H.out]
      exact (h1.set 1 _).set 0 _
    · simp only [RS.fail, if_pos H.out]
      exact Nat.le_refl _
    · simp [maxLen]
    · simp only [RS.fail, if_pos H.out]
      exact seen.nil _ _ _
  · have he' : (r.e == 0) = false := by simp [he]
    go_enter Tryd.func61, Tryd.ntmps61
    go_wp2
    go_end0
    have hf : r.fail x = r := by simp [RS.fail, he]
    exact ⟨rfl, by rw [hf]; exact ⟨A, c, h1, h2, h3, h4, h5⟩, keepBut.refl _ _⟩

def takePost (p g : Nat) (r : RS) (n : Nat) (w : World) (e : Ending) (w' : World) : Prop :=
  ∃ A c, e = .returned (.tuple #[.slice A (r.take n).length c, .bool (r.took n)]) ∧ (r.take n).length ≤ c ∧ c ≤ maxLen ∧ seen w' A g (r.take n) ∧ isR w' p g (r.past n) ∧ keepBut [p] w w'

set_option maxHeartbeats 400000 in
theorem take_any (p g : Nat) (r : RS) (n : Nat) (w : World) (h : isR w p g r) :
    Calls Tryd.prog 62 #[.pointer (some ⟨p, 0, none⟩), .int .i64 n] w (takePost p g r n w) := by
  obtain ⟨A, c, h1, h2, h3, h4, h5⟩ := id h
  have hc0 : w.cell? ⟨p, 0, none⟩ = some (.slice A r.l.length c) := h1.cell 0
  have hc1 : w.cell? ⟨p, 1, none⟩ = some (.int .i64 r.e) := h1.cell 1
  have hf0 := h1.free 0
  have hf1 := h1.free 1
  unfold maxLen at h3
  by_cases he : r.e = 0
  · have he' : (r.e == 0) = true := by simp [he]
    have H := Lib.hid he
    clear he
    by_cases hn : n ≤ r.l.length
    · have T : r.take n = r.l.take n := by simp [RS.take, H.out, hn]
      have P : r.past n = ⟨r.l.drop n, 0⟩ := by simp [RS.past, H.out, hn]
      have K : r.took n = true := by simp [RS.took, H.out, hn]
      have L : (r.take n).length = n := by rw [T, List.length_take]; omega
      have HT := Lib.hid T; have HP := Lib.hid P; have HK := Lib.hid K; have HL := Lib.hid L
      clear T P K L
      go_enter Tryd.func62, Tryd.ntmps62
      go_wp2
      · go_ret2
        refine ⟨A, n, by rw [HK.out, HL.out]; rfl, by rw [HL.out]; omega, by unfold maxLen; omega, ?_, ?_, (keepBut.refl _ _).setCell _ _ (by simp)⟩
        · rw [HT.out]; exact (h4.take n).keep ((keepBut.refl [p] w).setCell _ _ (by simp)) (fun hne => by simpa using h5 (by rintro h0; apply hne; rw [h0]; simp))
        · rw [HP.out]
          have hd : r.l.drop n = [] := List.drop_eq_nil_of_le (by omega)
          refine ⟨A, 0, ?_, by simp [hd], by simp [maxLen], by rw [hd]; exact seen.nil _ _ _, fun hne => absurd hd hne⟩
          have := h1.set 0 (.slice A (r.l.length - n) 0)
          simpa [H.out] using this
      · go_ret2
        refine ⟨A, c, by rw [HK.out, HL.out]; rfl, by rw [HL.out]; omega, by unfold maxLen; omega, ?_, ?_, (keepBut.refl _ _).setCell _ _ (by simp)⟩
        · rw [HT.out]; exact (h4.take n).keep ((keepBut.refl [p] w).setCell _ _ (by simp)) (fun hne => by simpa using h5 (by rintro h0; apply hne; rw [h0]; simp))
        · rw [HP.out]
          refine ⟨_, c - n, ?_, by simp; omega, by unfold maxLen; omega, (h4.drop n).keep ((keepBut.refl [p] w).setCell _ _ (by simp)) (fun hne => by simpa using h5 (by rintro h0; apply hne; rw [h0]; simp)), fun hne => h5 (by rintro h0; apply hne; rw [h0]; simp)⟩
          have := h1.set 0 (.slice (Option.map (fun x => x.add n) A) (r.l.length - n) (c - n))
          simpa [H.out] using this
    · have T : r.take n = [] := by simp [RS.take, H.out, hn]
      have P : r.past n = r.fail 3 := by simp [RS.past, RS.fail, H.out, hn]
      have K : r.took n = false := by simp [RS.took, hn]
      have HT := Lib.hid T; have HP := Lib.hid P; have HK := Lib.hid K
      clear T P K
      go_enter Tryd.func62, Tryd.ntmps62
      go_wp2_with (go_at_call 61; refine (fail_any p g r _ _ h).mono ?_; rintro e w' ⟨rfl, hi, hk⟩)
      go_ret2
      exact ⟨none, 0, by rw [HK.out, HT.out]; rfl, by rw [HT.out]; simp, by simp [maxLen], by rw [HT.out]; exact seen.nil _ _ _, by rw [HP.out]; exact hi, hk⟩
  · have he' : (r.e == 0) = false := by simp [he]
    have T : r.take n = [] := by simp [RS.take, he]
    have P : r.past n = r := by simp [RS.past, he]
    have K : r.took n = false := by simp [RS.took, he]
    have HT := Lib.hid T; have HP := Lib.hid P; have HK := Lib.hid K
    clear T P K
    go_enter Tryd.func62, Tryd.ntmps62
    go_wp2
    go_ret2
    exact ⟨none, 0, by rw [HK.out, HT.out]; rfl, by rw [HT.out]; simp, by simp [maxLen], by rw [HT.out]; exact seen.nil _ _ _, by rw [HP.out]; exact h, keepBut.refl _ _⟩
end Go.Proofs.YtmlmhnhilemjhaaDoor
end

section
namespace Go.Proofs.YtmlmhnhilemjhaaDoor
open Go.RowKit
set_option linter.unusedVariables false

theorem be_snoc (l : List UInt8) (k : Nat) (b : UInt8) (h : l[k]? = some b) : be (l.take (k + 1)) = be (l.take k) * 256 + b.toNat := by
  rw [List.take_add_one, h]
  simp [be, List.foldl_append]
theorem be_lt (l : List UInt8) : be l < 256 ^ l.length := by
  have key : ∀ (l : List UInt8) (n m : Nat), n < 256 ^ m → l.foldl (fun n b => n * 256 + b.toNat) n < 256 ^ (m + l.length) := by
    intro l
    induction l with
    | nil => intro n m h; simpa using h
    | cons b t ih =>
      intro n m h
      have := ih (n * 256 + b.toNat) (m + 1) (by have := b.toNat_lt; rw [Nat.pow_succ]; omega)
      simp only [List.foldl_cons, List.length_cons]
      rw [show m + (t.length + 1) = m + 1 + t.length by omega]
      exact this
  simpa [be] using key l 0 0 (by simp)
theorem be_take_lt (l : List UInt8) (k : Nat) (hk : k ≤ 7) : be (l.take k) < 2 ^ 56 := by
  have h := be_lt (l.take k)
  have h2 : 256 ^ (l.take k).length ≤ 256 ^ 7 := Nat.pow_le_pow_right (by decide) (by have := List.length_take_le k l; omega)
  have : (256 : Nat) ^ 7 = 2 ^ 56 := by decide
  omega
theorem be_lt64 (l : List UInt8) (hl : l.length ≤ 8) : be l < 2 ^ 64 := by
  have h := be_lt l
  have h2 : 256 ^ l.length ≤ 256 ^ 8 := Nat.pow_le_pow_right (by decide) hl
  have : (256 : Nat) ^ 8 = 2 ^ 64 := by decide
  omega

set_option maxHeartbeats 400000 in
theorem isWidth_any (n : Int) (w : World) : Calls Tryd.prog 59 #[.int .i64 n] w fun e w' => e = .returned (.bool (isW n)) ∧ w = w' := by
  by_cases h1 : n = 1
  · subst h1
    go_enter Tryd.func59, Tryd.ntmps59
    go_wp2
    go_ret
    exact ⟨rfl, rfl⟩
  by_cases h2 : n = 2
  · subst h2
    go_enter Tryd.func59, Tryd.ntmps59
    go_wp2
    go_ret
    exact ⟨rfl, rfl⟩
  by_cases h4 : n = 4
  · subst h4
    go_enter Tryd.func59, Tryd.ntmps59
    go_wp2
    go_ret
    exact ⟨rfl, rfl⟩
  · have e1 : (n == 1) = false := by simp [h1]
    have e2 : (n == 2) = false := by simp [h2]
    have e4 : (n == 4) = false := by simp [h4]
    have hw : isW n = (n == 8) := by simp [isW, h1, h2, h4]
    have HW := Lib.hid hw
    clear hw
    go_enter Tryd.func59, Tryd.ntmps59
    go_wp2
    go_ret
    exact ⟨by rw [HW.out]; rfl, rfl⟩

theorem isW_cases {n : Int} (h : isW n = true) : n = 1 ∨ n = 2 ∨ n = 4 ∨ n = 8 := by
  simpa [isW, or_assoc] using h

def numPost (p g : Nat) (r : RS) (n : Int) (w : World) (e : Ending) (w' : World) : Prop :=
  e = .returned (.int .i64 (r.num n).1) ∧ isR w' p g (r.num n).2 ∧ keepBut [p] w w'

set_option maxHeartbeats 400000 in
theorem num_any (p g : Nat) (r : RS) (n : Int) (w : World) (h : isR w p g r) :
    Calls Tryd.prog 41 #[.pointer (some ⟨p, 0, none⟩), .int .i64 n] w (numPost p g r n w) := by
  by_cases hw : isW n = true
  · obtain ⟨m, rfl⟩ : ∃ m : Nat, n = (m : Int) := ⟨n.toNat, by rcases isW_cases hw with h | h | h | h <;> omega⟩
    have hm : 1 ≤ m ∧ m ≤ 8 := by rcases isW_cases hw with h | h | h | h <;> omega
    by_cases ht : r.took m = true
    · have hl : (r.take m).length = m := by
        rw [RS.took_iff] at ht; rw [RS.take, if_pos ht, List.length_take]; omega
      have HL := Lib.hid hl
      have HT := Lib.hid ht
      clear hl
      go_enter Tryd.func41, Tryd.ntmps41
      go_wp2_with (first | (go_at_call 59; refine (isWidth_any _ _).mono ?_; rintro e w' ⟨rfl, rfl⟩) | (go_at_call 62; refine (take_any p g r m _ h).mono ?_; rintro e w1 ⟨A, c, rfl, hk1, hk2, hs, hi, hk⟩))
      generalize hgl : r.take m = l at *
      obtain ⟨o, rfl, hlt, hc⟩ := hs (by rintro rfl; have := HL.out; simp at this; omega)
      go_loop [7, 23] (fun n i => ∃ k : Nat, k ≤ m ∧ i = .int .i64 k ∧ n = .int .u64 (be (l.take k))) (fun _ i => m - (intOf i).toNat)
      case atStart => exact ⟨0, Nat.zero_le _, rfl, rfl⟩
      case round =>
        obtain ⟨k, hkm, rfl, rfl⟩ := hrel
        by_cases hlt2 : k < m
        · have hkl : k < l.length := by rw [HL.out]; exact hlt2
          have hb : ∃ b, l[k]? = some b := ⟨l[k]'hkl, by simp⟩
          obtain ⟨b, hb⟩ := hb
          have hcell := hc k b hb
          unfold bv at hcell
          have HB := Lib.hid (be_snoc l k b hb)
          have HO := Lib.hid (or_u64_byte (be (l.take k)) b.toNat (be_take_lt l k (by omega)) b.toNat_lt)
          clear hc hb hs
          go_wp2
          go_round
          case rel => exact ⟨k + 1, by omega, by go_num, by rw [HO.out, HB.out]⟩
          case measure => simp [intOf]; omega
        · obtain rfl : k = m := by omega
          have hlk : l.take k = l := List.take_of_length_le (by rw [HL.out]; exact Nat.le_refl _)
          have hbl := be_lt64 l (by rw [HL.out]; omega)
          rw [hlk]
          clear hlk hc hs
          have HG := Lib.hid hgl
          clear hgl
          by_cases hmx : mxN < be l
          · have hmx' : (9007199254740991 : Int) < (be l : Int) := by unfold mxN at hmx; omega
            go_wp2_with (go_at_call 61; refine (fail_any p g _ _ _ hi).mono ?_; rintro e w' ⟨rfl, hi', hk'⟩)
            go_ret
            have hn : r.num (k : Int) = (0, (r.past k).fail 9) := by
              unfold RS.num
              rw [if_pos hw, Int.toNat_natCast, if_pos HT.out, HG.out, if_pos hmx]
            exact ⟨by rw [hn]; rfl, by rw [hn]; exact hi', hk.then hk' (by simp)⟩
          · have hmx' : ¬ (9007199254740991 : Int) < (be l : Int) := by unfold mxN at hmx; omega
            go_wp2
            go_ret
            have hn : r.num (k : Int) = (((be l : Nat) : Int), r.past k) := by
              unfold RS.num
              rw [if_pos hw, Int.toNat_natCast, if_pos HT.out, HG.out, if_neg hmx]
            exact ⟨by rw [hn]; go_num, by rw [hn]; exact hi, hk⟩
    · have HT := Lib.hid ht
      have HF : r.took m = false := by simpa using ht
      have HF' := Lib.hid HF
      clear HF ht
      go_enter Tryd.func41, Tryd.ntmps41
      go_wp2_with (first | (go_at_call 59; refine (isWidth_any _ _).mono ?_; rintro e w' ⟨rfl, rfl⟩) | (go_at_call 62; refine (take_any p g r m _ h).mono ?_; rintro e w1 ⟨A, c, rfl, hk1, hk2, hs, hi, hk⟩; rw [HF'.out]))
      go_ret
      have hn : r.num (m : Int) = (0, r.past m) := by
        unfold RS.num
        rw [if_pos hw, Int.toNat_natCast, if_neg HT.out]
      exact ⟨by rw [hn]; rfl, by rw [hn]; exact hi, hk⟩
  · have HW := Lib.hid hw
    have hw' : isW n = false := by simpa using hw
    clear hw
    go_enter Tryd.func41, Tryd.ntmps41
    go_wp2_with (first | (go_at_call 59; refine (isWidth_any _ _).mono ?_; rintro e w' ⟨rfl, rfl⟩) | (go_at_call 61; refine (fail_any p g _ _ _ h).mono ?_; rintro e w' ⟨rfl, hi', hk'⟩))
    go_ret
    have hn : r.num n = (0, r.fail 2) := by
      unfold RS.num
      rw [if_neg HW.out]
    exact ⟨by rw [hn]; rfl, by rw [hn]; exact hi', hk'⟩
end Go.Proofs.YtmlmhnhilemjhaaDoor
end

section
namespace Go.Proofs.YtmlmhnhilemjhaaDoor
open Go.RowKit
set_option linter.unusedVariables false

def bounded (n most : Int) (r : RS) : Int × RS := if (mxN : Int) < n then (0, r.fail 9) else if most < n then (0, r.fail 5) else (n, r)
def boundedPost (p g : Nat) (r : RS) (n most : Int) (w : World) (e : Ending) (w' : World) : Prop :=
  e = .returned (.int .i64 (bounded n most r).1) ∧ isR w' p g (bounded n most r).2 ∧ keepBut [p] w w'

set_option maxHeartbeats 400000 in
theorem bounded_any (p g : Nat) (r : RS) (n most : Int) (w : World) (h : isR w p g r) :
    Calls Tryd.prog 78 #[.pointer (some ⟨p, 0, none⟩), .int .i64 n, .int .i64 most] w (boundedPost p g r n most w) := by
  by_cases h1 : (9007199254740991 : Int) < n
  · have hn : bounded n most r = (0, r.fail 9) := by unfold bounded mxN; rw [if_pos (by omega)]
    have HN := Lib.hid hn
    clear hn
    go_enter Tryd.func78, Tryd.ntmps78
    go_wp2_with (go_at_call 61; refine (fail_any p g _ _ _ h).mono ?_; rintro e w' ⟨rfl, hi', hk'⟩)
    go_ret
    exact ⟨by rw [HN.out]; rfl, by rw [HN.out]; exact hi', hk'⟩
  · by_cases h2 : most < n
    · have hn : bounded n most r = (0, r.fail 5) := by unfold bounded mxN; rw [if_neg (by omega), if_pos h2]
      have HN := Lib.hid hn
      clear hn
      go_enter Tryd.func78, Tryd.ntmps78
      go_wp2_with (go_at_call 61; refine (fail_any p g _ _ _ h).mono ?_; rintro e w' ⟨rfl, hi', hk'⟩)
      go_ret
      exact ⟨by rw [HN.out]; rfl, by rw [HN.out]; exact hi', hk'⟩
    · have hn : bounded n most r = (n, r) := by unfold bounded mxN; rw [if_neg (by omega), if_neg h2]
      have HN := Lib.hid hn
      clear hn
      go_enter Tryd.func78, Tryd.ntmps78
      go_wp2
      go_ret
      exact ⟨by rw [HN.out]; rfl, by rw [HN.out]; exact h, keepBut.refl _ _⟩

def countPost (p g : Nat) (r : RS) (most : Int) (w : World) (e : Ending) (w' : World) : Prop :=
  e = .returned (.int .i64 (r.count most).1) ∧ isR w' p g (r.count most).2 ∧ keepBut [p] w w'

theorem cnt_nil (most : Int) (s n : Nat) : cnt most [] s n = (0, ⟨[], 3⟩) := by rw [cnt]
theorem cnt_bad (most : Int) (t : List UInt8) (n : Nat) (b : UInt8) (hb : b.toNat = 128) : cnt most (b :: t) 0 n = (0, ⟨[], 4⟩) := by
  rw [cnt, if_pos ⟨rfl, hb⟩]
theorem cnt_last (most : Int) (t : List UInt8) (s n : Nat) (b : UInt8) (hb : b.toNat < 128) :
    cnt most (b :: t) s n = bounded ((n * 128 + b.toNat % 128 : Nat) : Int) most ⟨t, 0⟩ := by
  rw [cnt, if_neg (by omega), if_pos hb]
  unfold bounded RS.fail
  rw [if_pos rfl, if_pos rfl]
  generalize n * 128 + b.toNat % 128 = m
  by_cases h1 : mxN < m
  · rw [if_pos h1, if_pos (by omega)]
  · rw [if_neg h1, if_neg (c := (mxN : Int) < m) (by omega)]
theorem cnt_long (most : Int) (t : List UInt8) (n : Nat) (b : UInt8) (hb : ¬ b.toNat < 128) : cnt most (b :: t) 7 n = (0, ⟨[], 4⟩) := by
  rw [cnt, if_neg (by omega), if_neg hb, if_pos rfl]
theorem cnt_on (most : Int) (t : List UInt8) (s n : Nat) (b : UInt8) (h0 : ¬ (s = 0 ∧ b.toNat = 128)) (hb : ¬ b.toNat < 128) (hs : s ≠ 7) :
    cnt most (b :: t) s n = cnt most t (s + 1) (n * 128 + b.toNat % 128) := by
  rw [cnt, if_neg h0, if_neg hb, if_neg hs]

def cntPost (p g : Nat) (l : List UInt8) (k n : Nat) (most : Int) (w : World) (e : Ending) (w' : World) : Prop :=
  e = .returned (.int .i64 (cnt most l k n).1) ∧ isR w' p g (cnt most l k n).2 ∧ keepBut [p] w w'
/-- what holds at the head of each round -/
def cntRel (p g : Nat) (l : List UInt8) (most : Int) (w : World) (n i : Value) (wr : World) : Prop :=
  ∃ (k m : Nat) (t : List UInt8), i = .int .i64 k ∧ n = .int .i64 m ∧ k ≤ 7 ∧ m < 128 ^ k ∧ isR wr p g ⟨t, 0⟩ ∧ keepBut [p] w wr ∧ cnt most t k m = cnt most l 0 0
theorem pow_le_7 (k m : Nat) (hk : k ≤ 7) (h : m < 128 ^ k) : m < 562949953421312 := by
  have h2 : 128 ^ k ≤ 128 ^ 7 := Nat.pow_le_pow_right (by decide) hk
  have : (128 : Nat) ^ 7 = 562949953421312 := by decide
  omega
theorem u8_and_wrap (b : UInt8) : IntKind.i64.wrap (bits .and .u8 (b.toNat : Int) 127) = ((b.toNat % 128 : Nat) : Int) := by
  rw [and_u8_127 _ b.toNat_lt, wraps_i64 _ (by omega) (by omega)]
theorem round_num (m : Nat) (b : UInt8) (hm : m < 562949953421312) :
    bits .or .i64 ((m : Int) * 128) (wrap64 (bits .and .u8 (b.toNat : Int) 127)) = ((m * 128 + b.toNat % 128 : Nat) : Int) := by
  have := u8_and_wrap b
  rw [show wrap64 (bits .and .u8 (b.toNat : Int) 127) = ((b.toNat % 128 : Nat) : Int) from by rw [and_u8_127 _ b.toNat_lt]; unfold wrap64; omega]
  exact or_i64_seven m _ (by omega) (by omega)

def oneNilPost (p g : Nat) (w : World) (e : Ending) (w' : World) : Prop :=
  e = .returned (.tuple #[.slice none 0 0, .bool false]) ∧ isR w' p g ⟨[], 3⟩ ∧ keepBut [p] w w'
theorem take1_nil (p g : Nat) (w : World) (h : isR w p g ⟨[], 0⟩) :
    Calls Tryd.prog 62 #[.pointer (some ⟨p, 0, none⟩), .int .i64 1] w fun e w' => ∃ A c, e = .returned (.tuple #[.slice A 0 c, .bool false]) ∧ isR w' p g ⟨[], 3⟩ ∧ keepBut [p] w w' := by
  refine (take_any p g _ 1 _ h).mono ?_
  rintro e w1 ⟨A, c, rfl, hk1, hk2, hs, hi, hkb1⟩
  exact ⟨A, c, rfl, hi, hkb1⟩
theorem take1_cons (p g : Nat) (b : UInt8) (t : List UInt8) (w : World) (h : isR w p g ⟨b :: t, 0⟩) :
    Calls Tryd.prog 62 #[.pointer (some ⟨p, 0, none⟩), .int .i64 1] w fun e w' => ∃ o c, e = .returned (.tuple #[.slice (some ⟨g, o, none⟩) 1 c, .bool true]) ∧ w'.cell? ⟨g, o, none⟩ = some (.int .u8 (b.toNat : Int)) ∧ isR w' p g ⟨t, 0⟩ ∧ keepBut [p] w w' := by
  refine (take_any p g _ 1 _ h).mono ?_
  rintro e w1 ⟨A, c, rfl, hk1, hk2, hs, hi, hkb1⟩
  have ht : RS.take ⟨b :: t, 0⟩ 1 = [b] := by simp [RS.take]
  have hp : RS.past ⟨b :: t, 0⟩ 1 = ⟨t, 0⟩ := by simp [RS.past]
  have hq : RS.took ⟨b :: t, 0⟩ 1 = true := by simp [RS.took]
  rw [ht] at hs
  rw [hp] at hi
  obtain ⟨o, rfl, hlt, hc⟩ := hs (by simp)
  exact ⟨o, c, by rw [ht, hq]; rfl, hc 0 b rfl, hi, hkb1⟩

set_option maxRecDepth 100000 in
set_option maxHeartbeats 1000000 in
theorem count_any0 (p g : Nat) (l : List UInt8) (most : Int) (w : World) (h : isR w p g ⟨l, 0⟩) :
    Calls Tryd.prog 63 #[.pointer (some ⟨p, 0, none⟩), .int .i64 most] w (cntPost p g l 0 0 most w) := by
  go_enter Tryd.func63, Tryd.ntmps63
  go_wp2
  go_step3
  go_wp2
  go_step3
  go_wp2
  go_loopw [5, 6] (fun n i wr => cntRel p g l most w n i wr) (fun _ i _ => 8 - (intOf i).toNat)
  case atStart => exact ⟨0, 0, l, rfl, rfl, by omega, by simp, h, keepBut.refl _ _, rfl⟩
  case round =>
    obtain ⟨k, m, t, rfl, rfl, hk, hm, hr, hkb, hc⟩ := hrel
    have hm7 := pow_le_7 k m hk hm
    have HC := Lib.hid hc
    clear hc
    rcases t with _ | ⟨b, t⟩
    · go_wp2_with (go_at_call 62; refine (take1_nil p g _ hr).mono ?_; rintro e w1 ⟨A, c, rfl, hi, hkb1⟩)
      rw [Exit.noGoto_ret]
      go_ret
      have hn := cnt_nil most k m
      rw [HC.out] at hn
      exact ⟨by rw [hn]; rfl, by rw [hn]; exact hi, hkb.then hkb1 (by simp)⟩
    · obtain ⟨x, hx⟩ : ∃ x : Nat, x = m * 128 + b.toNat % 128 := ⟨_, rfl⟩
      have hrn := round_num m b hm7
      rw [← hx] at hrn
      have hb256 := b.toNat_lt
      have hxb : x < 72057594037927936 := by omega
      have HX := Lib.hid hx
      clear hx
      by_cases hb : b.toNat < 128
      · have hz : ¬ (k = 0 ∧ b.toNat = 128) := by omega
        have hlast := cnt_last most t k m b hb
        rw [← HX.out, HC.out] at hlast
        have HL := Lib.hid hlast
        clear hlast
        go_wp2_with (first | (go_at_call 62; refine (take1_cons p g b t _ hr).mono ?_; rintro e w1 ⟨o, c, rfl, hcell, hi, hkb1⟩) | (go_at_call 78; refine (bounded_any p g _ (x : Int) most _ (by assumption)).mono ?_; rintro e w2 ⟨rfl, hi2, hkb2⟩))
        all_goals
          rw [Exit.noGoto_ret]
          go_ret
          exact ⟨by rw [HL.out]; rfl, by rw [HL.out]; assumption, (hkb.then (by assumption) (by simp)).then (by assumption) (by simp)⟩
      · by_cases h0 : k = 0 ∧ b.toNat = 128
        · obtain ⟨rfl, hb2⟩ := h0
          have hn := cnt_bad most t m b hb2
          rw [HC.out] at hn
          have HN := Lib.hid hn
          clear hn
          go_wp2_with (first | (go_at_call 62; refine (take1_cons p g b t _ hr).mono ?_; rintro e w1 ⟨o, c, rfl, hcell, hi, hkb1⟩) | (go_at_call 61; refine (fail_any p g _ _ _ (by assumption)).mono ?_; rintro e w2 ⟨rfl, hi2, hkb2⟩))
          all_goals
            rw [Exit.noGoto_ret]
            go_ret
            exact ⟨by rw [HN.out]; rfl, by rw [HN.out]; assumption, (hkb.then (by assumption) (by simp)).then (by assumption) (by simp)⟩
        · by_cases h7 : k = 7
          · subst h7
            have hn := cnt_long most t m b hb
            rw [HC.out] at hn
            have HN := Lib.hid hn
            clear hn
            go_wp2_with (first | (go_at_call 62; refine (take1_cons p g b t _ hr).mono ?_; rintro e w1 ⟨o, c, rfl, hcell, hi, hkb1⟩) | (go_at_call 61; refine (fail_any p g _ _ _ (by assumption)).mono ?_; rintro e w2 ⟨rfl, hi2, hkb2⟩))
            all_goals
              rw [Exit.noGoto_ret]
              go_ret
              exact ⟨by rw [HN.out]; rfl, by rw [HN.out]; assumption, (hkb.then (by assumption) (by simp)).then (by assumption) (by simp)⟩
          · have hn := cnt_on most t k m b h0 hb h7
            rw [HC.out, ← HX.out] at hn
            have HN := Lib.hid hn
            clear hn
            go_wp2_with (first | (go_at_call 62; refine (take1_cons p g b t _ hr).mono ?_; rintro e w1 ⟨o, c, rfl, hcell, hi, hkb1⟩))
            all_goals
              go_roundw
              case rel => exact ⟨k + 1, x, t, by go_num, rfl, by omega, by have := HX.out; rw [Nat.pow_succ]; omega, by assumption, hkb.then (by assumption) (by simp), HN.out.symm⟩
              case measure => simp [intOf]; omega

set_option maxRecDepth 100000 in
set_option maxHeartbeats 1000000 in
theorem count_any1 (p g : Nat) (r : RS) (most : Int) (w : World) (h : isR w p g r) (he : r.e ≠ 0) :
    Calls Tryd.prog 63 #[.pointer (some ⟨p, 0, none⟩), .int .i64 most] w (countPost p g r most w) := by
  have hn : r.count most = (0, r) := by simp [RS.count, he]
  have ht : ∀ w, isR w p g r → Calls Tryd.prog 62 #[.pointer (some ⟨p, 0, none⟩), .int .i64 1] w fun e w' => ∃ A c, e = .returned (.tuple #[.slice A 0 c, .bool false]) ∧ isR w' p g r ∧ keepBut [p] w w' := by
    intro w h
    refine (take_any p g _ 1 _ h).mono ?_
    rintro e w1 ⟨A, c, rfl, hk1, hk2, hs, hi, hkb1⟩
    have h1 : r.take 1 = [] := by simp [RS.take, he]
    have h2 : r.took 1 = false := by simp [RS.took, he]
    have h3 : r.past 1 = r := by simp [RS.past, he]
    rw [h1, h2]
    rw [h3] at hi
    exact ⟨A, c, rfl, hi, hkb1⟩
  have HN := Lib.hid hn
  have HT := Lib.hid ht
  clear hn ht he
  go_enter Tryd.func63, Tryd.ntmps63
  go_wp2
  go_step3
  go_wp2
  go_step3
  go_wp2
  refine wp_loop_rounds 1 ?_
  rw [rounds_succ]
  go_wp2_with (go_at_call 62; refine (HT.out _ h).mono ?_; rintro e w1 ⟨A, c, rfl, hi, hkb1⟩)
  rw [Exit.noGoto_ret]
  go_ret
  exact ⟨by rw [HN.out]; rfl, by rw [HN.out]; exact hi, hkb1⟩

theorem count_any (p g : Nat) (r : RS) (most : Int) (w : World) (h : isR w p g r) :
    Calls Tryd.prog 63 #[.pointer (some ⟨p, 0, none⟩), .int .i64 most] w (countPost p g r most w) := by
  by_cases he : r.e = 0
  · obtain ⟨l, e⟩ := r
    simp only at he
    subst he
    have hcnt : (RS.mk l 0).count most = cnt most l 0 0 := by simp [RS.count]
    unfold countPost
    rw [hcnt]
    exact count_any0 p g l most w h
  · exact count_any1 p g r most w h he

/-- a new slice that reads as l: it is empty, or lies in a block that was not there -/
def freshB (w w' : World) (v : Value) (l : List UInt8) : Prop :=
  owns w' 5 1 v l.length (l.map bv) ∧ ∀ x ∈ homes v, w.heap.size ≤ x

def rawPost (p g : Nat) (r : RS) (n : Int) (w : World) (e : Ending) (w' : World) : Prop :=
  ∃ v, e = .returned v ∧ freshB w w' v (r.raw n).1 ∧ isR w' p g (r.raw n).2 ∧ keepBut [p] w w'

theorem infoU8 : (Tryd.prog.info? 5).map (fun i => (i.zero, i.size, i.bytes)) = some (some (.int .u8 0), 1, 1) := by kernel_rfl

theorem isR.bound {w : World} {p g : Nat} {r : RS} (h : isR w p g r) : r.l.length ≤ maxLen := by
  obtain ⟨A, c, _, h2, h3, _⟩ := h; omega

set_option maxHeartbeats 1000000 in
theorem raw_any (p g : Nat) (r : RS) (n : Int) (w : World) (h : isR w p g r) (hb : r.l.length ≤ 140737488355328) :
    Calls Tryd.prog 79 #[.pointer (some ⟨p, 0, none⟩), .int .i64 n] w (rawPost p g r n w) := by
  by_cases hn : n < 0
  · have hr : r.raw n = ([], r.fail 2) := by simp [RS.raw, hn]
    have HR := Lib.hid hr
    clear hr
    go_enter Tryd.func79, Tryd.ntmps79
    go_wp2_with (go_at_call 61; refine (fail_any p g _ _ _ h).mono ?_; rintro e w' ⟨rfl, hi', hk'⟩)
    go_ret
    exact ⟨_, rfl, by rw [HR.out]; exact ⟨owns.nil _ _ _, by simp [homes, Value.ownBlock]⟩, by rw [HR.out]; exact hi', hk'⟩
  · obtain ⟨m, rfl⟩ : ∃ m : Nat, n = (m : Int) := ⟨n.toNat, by omega⟩
    have hr : r.raw (m : Int) = (r.take m, r.past m) := by unfold RS.raw; rw [if_neg hn]; rfl
    have HR := Lib.hid hr
    clear hr
    obtain ⟨i0, hi0, hz0, hz1, hz2⟩ := info_parts infoU8
    by_cases ht : r.took m = true
    · have HT := Lib.hid ht
      have hlen : (r.take m).length ≤ r.l.length := by
        unfold RS.take; split
        · rw [List.length_take]; omega
        · simp
      go_enter Tryd.func79, Tryd.ntmps79
      go_wp2_with (first | (go_at_call 62; refine (take_any p g r m _ h).mono ?_; rintro e w1 ⟨A, c, rfl, hk1, hk2, hs, hi, hk⟩) | (at_builtin; refine wp_append _ rfl _ _ 29 rfl 5 i0 (.int .u8 0) 1 1 Tryd.underlying29 hi0 hz0 hz1 hz2 rfl (by decide) _ 0 [] rfl (owns.nil _ _ _) _ g _ _ _ rfl (seen.reads (by assumption)) ?c1 ?c2 ?c3 ?_))
      case c1 => intro u hu; simp at hu; obtain ⟨b, _, rfl⟩ := hu; rfl
      case c2 => omega
      case c3 => unfold maxLen at *; omega
      · intro A' c' w2 hown hkb2 hloc
        go_wp2
        go_ret
        try simp only [Nat.zero_add, List.nil_append] at hown
        have hfr : freshB w w2 (.slice A' (r.take m).length c') (r.take m) := by
          refine ⟨by simpa using hown, fun x hx => ?_⟩
          rcases hloc x (by simpa using hx) with h1 | h1
          · simp [homes_none] at h1
          · have := hk.size; omega
        exact ⟨_, rfl, by rw [HR.out]; exact hfr, by rw [HR.out]; exact hi.keep hkb2 (by simp [homes_none]) (by simp [homes_none]), hk.then hkb2 (by simp [homes_none])⟩
    · have HT : r.took m = false := by simpa using ht
      have hnil : r.take m = [] := by
        unfold RS.take; rw [if_neg (by rw [← RS.took_iff]; exact ht)]
      have HT' := Lib.hid HT
      have HN := Lib.hid hnil
      clear HT hnil ht
      go_enter Tryd.func79, Tryd.ntmps79
      go_wp2_with (go_at_call 62; refine (take_any p g r m _ h).mono ?_; rintro e w1 ⟨A, c, rfl, hk1, hk2, hs, hi, hk⟩; rw [HT'.out])
      go_ret
      exact ⟨_, rfl, by rw [HR.out, HN.out]; exact ⟨owns.nil _ _ _, by simp [homes, Value.ownBlock]⟩, by rw [HR.out]; exact hi, hk⟩

def textPost (p g : Nat) (r : RS) (n : Int) (w : World) (e : Ending) (w' : World) : Prop :=
  ∃ v, e = .returned v ∧ freshB w w' v (r.text n).1 ∧ isR w' p g (r.text n).2 ∧ keepBut [p] w w'

theorem cnt_short (most : Int) : ∀ (l : List UInt8) (s n : Nat), (cnt most l s n).2.l.length ≤ l.length := by
  intro l
  induction l with
  | nil => intro s n; simp [cnt]
  | cons b t ih =>
    intro s n
    unfold cnt
    split
    · simp
    · split
      · split
        · simp
        · split <;> simp
      · split
        · simp
        · have := ih (s + 1) (n * 128 + b.toNat % 128); simp only [List.length_cons]; omega
theorem RS.count_short (r : RS) (most : Int) : (r.count most).2.l.length ≤ r.l.length := by
  unfold RS.count; split
  · exact cnt_short _ _ _ _
  · exact Nat.le_refl _

set_option maxHeartbeats 1000000 in
theorem text_any (p g : Nat) (r : RS) (n : Int) (w : World) (h : isR w p g r) (hb : r.l.length ≤ 140737488355328) :
    Calls Tryd.prog 65 #[.pointer (some ⟨p, 0, none⟩), .int .i64 n] w (textPost p g r n w) := by
  have hb2 := RS.count_short r n
  go_enter Tryd.func65, Tryd.ntmps65
  go_wp2_with (first | (go_at_call 63; refine (count_any p g r n _ h).mono ?_; rintro e w1 ⟨rfl, hi, hk⟩) | (go_at_call 79; refine (raw_any p g _ _ _ (by assumption) (by omega)).mono ?_; rintro e w2 ⟨v, rfl, hf, hi2, hk2⟩))
  go_ret
  exact ⟨_, rfl, ⟨hf.1, fun x hx => by have := hf.2 x hx; have := hk.size; omega⟩, hi2, hk.then hk2 (by simp)⟩

set_option maxHeartbeats 400000 in
theorem left_any (p g : Nat) (r : RS) (w : World) (h : isR w p g r) :
    Calls Tryd.prog 70 #[.pointer (some ⟨p, 0, none⟩)] w fun e w' => e = .returned (.int .i64 r.l.length) ∧ w = w' := by
  obtain ⟨A, c, h1, h2, h3, h4, h5⟩ := h
  have hc0 : w.cell? ⟨p, 0, none⟩ = some (.slice A r.l.length c) := h1.cell 0
  go_enter Tryd.func70, Tryd.ntmps70
  go_wp2
  go_ret
  exact ⟨rfl, rfl⟩
set_option maxHeartbeats 400000 in
theorem err_any (p g : Nat) (r : RS) (w : World) (h : isR w p g r) :
    Calls Tryd.prog 69 #[.pointer (some ⟨p, 0, none⟩)] w fun e w' => e = .returned (.int .i64 r.e) ∧ w = w' := by
  obtain ⟨A, c, h1, h2, h3, h4, h5⟩ := h
  have hc1 : w.cell? ⟨p, 1, none⟩ = some (.int .i64 r.e) := h1.cell 1
  go_enter Tryd.func69, Tryd.ntmps69
  go_wp2
  go_ret
  exact ⟨rfl, rfl⟩
set_option maxHeartbeats 400000 in
theorem end_any (p g : Nat) (r : RS) (w : World) (h : isR w p g r) :
    Calls Tryd.prog 44 #[.pointer (some ⟨p, 0, none⟩)] w fun e w' => e = .returned (.int .i64 r.end_) ∧ w = w' := by
  by_cases he : r.e = 0
  · have he' : (r.e != 0) = false := by simp [he]
    by_cases hl : r.l = []
    · have hx : r.end_ = 0 := by simp [RS.end_, he, hl]
      have hy : ¬ (0 : Int) < (r.l.length : Int) := by simp [hl]
      have HX := Lib.hid hx
      clear hx he hl
      go_enter Tryd.func44, Tryd.ntmps44
      go_wp2_with (first | (go_at_call 69; refine (err_any p g r _ h).mono ?_; rintro e w' ⟨rfl, rfl⟩) | (go_at_call 70; refine (left_any p g r _ h).mono ?_; rintro e w' ⟨rfl, rfl⟩))
      go_ret
      exact ⟨by rw [HX.out]; rfl, rfl⟩
    · have hx : r.end_ = 4 := by simp [RS.end_, he, hl]
      have hy : (0 : Int) < (r.l.length : Int) := by
        have := List.length_pos_iff.2 hl; omega
      have HX := Lib.hid hx
      clear hx he hl
      go_enter Tryd.func44, Tryd.ntmps44
      go_wp2_with (first | (go_at_call 69; refine (err_any p g r _ h).mono ?_; rintro e w' ⟨rfl, rfl⟩) | (go_at_call 70; refine (left_any p g r _ h).mono ?_; rintro e w' ⟨rfl, rfl⟩))
      go_ret
      exact ⟨by rw [HX.out]; rfl, rfl⟩
  · have he' : (r.e != 0) = true := by simp [he]
    have hx : r.end_ = r.e := by simp [RS.end_, he]
    have HX := Lib.hid hx
    clear hx he
    go_enter Tryd.func44, Tryd.ntmps44
    go_wp2_with (first | (go_at_call 69; refine (err_any p g r _ h).mono ?_; rintro e w' ⟨rfl, rfl⟩))
    go_ret
    exact ⟨by rw [HX.out]; rfl, rfl⟩
end Go.Proofs.YtmlmhnhilemjhaaDoor
end
