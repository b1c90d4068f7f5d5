/-
  LOW2: Reader, Reader2, Reader3, Writer, Writer2, joined.
-/
import Derived.Test.YthfdkonhjpdflaaGreatDoorLow1
import Derived.Handy
section
namespace Go.Proofs.YthfdkonhjpdflaaGreatDoor
open Go.RowKit
set_option linter.unusedVariables false

/-- block p is a reader that stands at r; its bytes lie in block g -/
def isR (w : World) (p g : Nat) (r : RS) : Prop :=
  ∃ A c, rowAt w p 139 #[.slice A r.l.length c, .int .i64 r.e] ∧ r.l.length ≤ c ∧ c ≤ maxLen ∧ seen w A g r.l ∧ (r.l ≠ [] → g ≠ p)

theorem isR.keep {S : List Nat} {w w' : World} {p g : Nat} {r : RS} (h : isR w p g r) (hk : keepBut S w w') (hp : p ∉ S) (hg : r.l ≠ [] → g ∉ S) : isR w' p g r := by
  obtain ⟨A, c, h1, h2, h3, h4, h5⟩ := h
  exact ⟨A, c, hk.row h1 hp, h2, h3, h4.keep hk hg, h5⟩
theorem isR.lt {w : World} {p g : Nat} {r : RS} (h : isR w p g r) : p < w.heap.size := by
  obtain ⟨A, c, h1, _⟩ := h; exact h1.lt

def failPost (p g : Nat) (r : RS) (x : Int) (w : World) (e : Ending) (w' : World) : Prop :=
  e = .returned (.tuple #[]) ∧ isR w' p g (r.fail x) ∧ keepBut [p] w w'

set_option maxHeartbeats 400000 in
theorem fail_any (p g : Nat) (r : RS) (x : Int) (w : World) (h : isR w p g r) :
    Calls Tryz.prog 139 #[.pointer (some ⟨p, 0, none⟩), .int .i64 x] w (failPost p g r x w) := by
  obtain ⟨A, c, h1, h2, h3, h4, h5⟩ := h
  have hc0 : w.cell? ⟨p, 0, none⟩ = some (.slice A r.l.length c) := h1.cell 0
  have hc1 : w.cell? ⟨p, 1, none⟩ = some (.int .i64 r.e) := h1.cell 1
  have hf0 := h1.free 0
  have hf1 := h1.free 1
  by_cases he : r.e = 0
  · have he' : (r.e == 0) = true := by simp [he]
    have H := Lib.hid he
    clear he
    go_enter Tryz.func139, Tryz.ntmps139
    go_wp2
    go_end0
    refine ⟨rfl, ⟨none, 0, ?_, ?_, ?_, ?_, by simp only [RS.fail, if_pos H.out]; exact fun h => absurd rfl h⟩, ((keepBut.refl _ _).setCell _ _ (by simp)).setCell _ _ (by simp)⟩
    · simp only [RS.fail, if_pos H.out]
      exact (h1.set 1 _).set 0 _
    · simp only [RS.fail, if_pos H.out]
      exact Nat.le_refl _
    · simp [maxLen]
    · simp only [RS.fail, if_pos H.out]
      exact seen.nil _ _ _
  · have he' : (r.e == 0) = false := by simp [he]
    go_enter Tryz.func139, Tryz.ntmps139
    go_wp2
    go_end0
    have hf : r.fail x = r := by simp [RS.fail, he]
    exact ⟨rfl, by rw [hf]; exact ⟨A, c, h1, h2, h3, h4, h5⟩, keepBut.refl _ _⟩

def takePost (p g : Nat) (r : RS) (n : Nat) (w : World) (e : Ending) (w' : World) : Prop :=
  ∃ A c, e = .returned (.tuple #[.slice A (r.take n).length c, .bool (r.took n)]) ∧ (r.take n).length ≤ c ∧ c ≤ maxLen ∧ seen w' A g (r.take n) ∧ isR w' p g (r.past n) ∧ keepBut [p] w w'

set_option maxHeartbeats 400000 in
theorem take_any (p g : Nat) (r : RS) (n : Nat) (w : World) (h : isR w p g r) :
    Calls Tryz.prog 140 #[.pointer (some ⟨p, 0, none⟩), .int .i64 n] w (takePost p g r n w) := by
  obtain ⟨A, c, h1, h2, h3, h4, h5⟩ := id h
  have hc0 : w.cell? ⟨p, 0, none⟩ = some (.slice A r.l.length c) := h1.cell 0
  have hc1 : w.cell? ⟨p, 1, none⟩ = some (.int .i64 r.e) := h1.cell 1
  have hf0 := h1.free 0
  have hf1 := h1.free 1
  unfold maxLen at h3
  by_cases he : r.e = 0
  · have he' : (r.e == 0) = true := by simp [he]
    have H := Lib.hid he
    clear he
    by_cases hn : n ≤ r.l.length
    · have T : r.take n = r.l.take n := by simp [RS.take, H.out, hn]
      have P : r.past n = ⟨r.l.drop n, 0⟩ := by simp [RS.past, H.out, hn]
      have K : r.took n = true := by simp [RS.took, H.out, hn]
      have L : (r.take n).length = n := by rw [T, List.length_take]; omega
      have HT := Lib.hid T; have HP := Lib.hid P; have HK := Lib.hid K; have HL := Lib.hid L
      clear T P K L
      go_enter Tryz.func140, Tryz.ntmps140
      go_wp2
      · go_ret2
        refine ⟨A, n, by rw [HK.out, HL.out]; rfl, by rw [HL.out]; omega, by unfold maxLen; omega, ?_, ?_, (keepBut.refl _ _).setCell _ _ (by simp)⟩
        · rw [HT.out]; exact (h4.take n).keep ((keepBut.refl [p] w).setCell _ _ (by simp)) (fun hne => by simpa using h5 (by rintro h0; apply hne; rw [h0]; simp))
        · rw [HP.out]
          have hd : r.l.drop n = [] := List.drop_eq_nil_of_le (by omega)
          refine ⟨A, 0, ?_, by simp [hd], by simp [maxLen], by rw [hd]; exact seen.nil _ _ _, fun hne => absurd hd hne⟩
          have := h1.set 0 (.slice A (r.l.length - n) 0)
          simpa [H.out] using this
      · go_ret2
        refine ⟨A, c, by rw [HK.out, HL.out]; rfl, by rw [HL.out]; omega, by unfold maxLen; omega, ?_, ?_, (keepBut.refl _ _).setCell _ _ (by simp)⟩
        · rw [HT.out]; exact (h4.take n).keep ((keepBut.refl [p] w).setCell _ _ (by simp)) (fun hne => by simpa using h5 (by rintro h0; apply hne; rw [h0]; simp))
        · rw [HP.out]
          refine ⟨_, c - n, ?_, by simp; omega, by unfold maxLen; omega, (h4.drop n).keep ((keepBut.refl [p] w).setCell _ _ (by simp)) (fun hne => by simpa using h5 (by rintro h0; apply hne; rw [h0]; simp)), fun hne => h5 (by rintro h0; apply hne; rw [h0]; simp)⟩
          have := h1.set 0 (.slice (Option.map (fun x => x.add n) A) (r.l.length - n) (c - n))
          simpa [H.out] using this
    · have T : r.take n = [] := by simp [RS.take, H.out, hn]
      have P : r.past n = r.fail 3 := by simp [RS.past, RS.fail, H.out, hn]
      have K : r.took n = false := by simp [RS.took, hn]
      have HT := Lib.hid T; have HP := Lib.hid P; have HK := Lib.hid K
      clear T P K
      go_enter Tryz.func140, Tryz.ntmps140
      go_wp2_with (go_at_call 139; refine (fail_any p g r _ _ h).mono ?_; rintro e w' ⟨rfl, hi, hk⟩)
      go_ret2
      exact ⟨none, 0, by rw [HK.out, HT.out]; rfl, by rw [HT.out]; simp, by simp [maxLen], by rw [HT.out]; exact seen.nil _ _ _, by rw [HP.out]; exact hi, hk⟩
  · have he' : (r.e == 0) = false := by simp [he]
    have T : r.take n = [] := by simp [RS.take, he]
    have P : r.past n = r := by simp [RS.past, he]
    have K : r.took n = false := by simp [RS.took, he]
    have HT := Lib.hid T; have HP := Lib.hid P; have HK := Lib.hid K
    clear T P K
    go_enter Tryz.func140, Tryz.ntmps140
    go_wp2
    go_ret2
    exact ⟨none, 0, by rw [HK.out, HT.out]; rfl, by rw [HT.out]; simp, by simp [maxLen], by rw [HT.out]; exact seen.nil _ _ _, by rw [HP.out]; exact h, keepBut.refl _ _⟩
end Go.Proofs.YthfdkonhjpdflaaGreatDoor
end

section
namespace Go.Proofs.YthfdkonhjpdflaaGreatDoor
open Go.RowKit
set_option linter.unusedVariables false

theorem be_snoc (l : List UInt8) (k : Nat) (b : UInt8) (h : l[k]? = some b) : be (l.take (k + 1)) = be (l.take k) * 256 + b.toNat := by
  rw [List.take_add_one, h]
  simp [be, List.foldl_append]
theorem be_lt (l : List UInt8) : be l < 256 ^ l.length := by
  have key : ∀ (l : List UInt8) (n m : Nat), n < 256 ^ m → l.foldl (fun n b => n * 256 + b.toNat) n < 256 ^ (m + l.length) := by
    intro l
    induction l with
    | nil => intro n m h; simpa using h
    | cons b t ih =>
      intro n m h
      have := ih (n * 256 + b.toNat) (m + 1) (by have := b.toNat_lt; rw [Nat.pow_succ]; omega)
      simp only [List.foldl_cons, List.length_cons]
      rw [show m + (t.length + 1) = m + 1 + t.length by omega]
      exact this
  simpa [be] using key l 0 0 (by simp)
theorem be_take_lt (l : List UInt8) (k : Nat) (hk : k ≤ 7) : be (l.take k) < 2 ^ 56 := by
  have h := be_lt (l.take k)
  have h2 : 256 ^ (l.take k).length ≤ 256 ^ 7 := Nat.pow_le_pow_right (by decide) (by have := List.length_take_le k l; omega)
  have : (256 : Nat) ^ 7 = 2 ^ 56 := by decide
  omega
theorem be_lt64 (l : List UInt8) (hl : l.length ≤ 8) : be l < 2 ^ 64 := by
  have h := be_lt l
  have h2 : 256 ^ l.length ≤ 256 ^ 8 := Nat.pow_le_pow_right (by decide) hl
  have : (256 : Nat) ^ 8 = 2 ^ 64 := by decide
  omega

set_option maxHeartbeats 400000 in
theorem isWidth_any (n : Int) (w : World) : Calls Tryz.prog 120 #[.int .i64 n] w fun e w' => e = .returned (.bool (isW n)) ∧ w = w' := by
  by_cases h1 : n = 1
  · subst h1
    go_enter Tryz.func120, Tryz.ntmps120
    go_wp2
    go_ret
    exact ⟨rfl, rfl⟩
  by_cases h2 : n = 2
  · subst h2
    go_enter Tryz.func120, Tryz.ntmps120
    go_wp2
    go_ret
    exact ⟨rfl, rfl⟩
  by_cases h4 : n = 4
  · subst h4
    go_enter Tryz.func120, Tryz.ntmps120
    go_wp2
    go_ret
    exact ⟨rfl, rfl⟩
  · have e1 : (n == 1) = false := by simp [h1]
    have e2 : (n == 2) = false := by simp [h2]
    have e4 : (n == 4) = false := by simp [h4]
    have hw : isW n = (n == 8) := by simp [isW, h1, h2, h4]
    have HW := Lib.hid hw
    clear hw
    go_enter Tryz.func120, Tryz.ntmps120
    go_wp2
    go_ret
    exact ⟨by rw [HW.out]; rfl, rfl⟩

theorem isW_cases {n : Int} (h : isW n = true) : n = 1 ∨ n = 2 ∨ n = 4 ∨ n = 8 := by
  simpa [isW, or_assoc] using h

def numPost (p g : Nat) (r : RS) (n : Int) (w : World) (e : Ending) (w' : World) : Prop :=
  e = .returned (.int .i64 (r.num n).1) ∧ isR w' p g (r.num n).2 ∧ keepBut [p] w w'

set_option maxHeartbeats 400000 in
theorem num_any (p g : Nat) (r : RS) (n : Int) (w : World) (h : isR w p g r) :
    Calls Tryz.prog 94 #[.pointer (some ⟨p, 0, none⟩), .int .i64 n] w (numPost p g r n w) := by
  by_cases hw : isW n = true
  · obtain ⟨m, rfl⟩ : ∃ m : Nat, n = (m : Int) := ⟨n.toNat, by rcases isW_cases hw with h | h | h | h <;> omega⟩
    have hm : 1 ≤ m ∧ m ≤ 8 := by rcases isW_cases hw with h | h | h | h <;> omega
    by_cases ht : r.took m = true
    · have hl : (r.take m).length = m := by
        rw [RS.took_iff] at ht; rw [RS.take, if_pos ht, List.length_take]; omega
      have HL := Lib.hid hl
      have HT := Lib.hid ht
      clear hl
      go_enter Tryz.func94, Tryz.ntmps94
      go_wp2_with (first | (go_at_call 120; refine (isWidth_any _ _).mono ?_; rintro e w' ⟨rfl, rfl⟩) | (go_at_call 140; refine (take_any p g r m _ h).mono ?_; rintro e w1 ⟨A, c, rfl, hk1, hk2, hs, hi, hk⟩))
      generalize hgl : r.take m = l at *
      obtain ⟨o, rfl, hlt, hc⟩ := hs (by rintro rfl; have := HL.out; simp at this; omega)
      go_loop [7, 23] (fun n i => ∃ k : Nat, k ≤ m ∧ i = .int .i64 k ∧ n = .int .u64 (be (l.take k))) (fun _ i => m - (intOf i).toNat)
      case atStart => exact ⟨0, Nat.zero_le _, rfl, rfl⟩
      case round =>
        obtain ⟨k, hkm, rfl, rfl⟩ := hrel
        by_cases hlt2 : k < m
        · have hkl : k < l.length := by rw [HL.out]; exact hlt2
          have hb : ∃ b, l[k]? = some b := ⟨l[k]'hkl, by simp⟩
          obtain ⟨b, hb⟩ := hb
          have hcell := hc k b hb
          unfold bv at hcell
          have HB := Lib.hid (be_snoc l k b hb)
          have HO := Lib.hid (or_u64_byte (be (l.take k)) b.toNat (be_take_lt l k (by omega)) b.toNat_lt)
          clear hc hb hs
          go_wp2
          go_round
          case rel => exact ⟨k + 1, by omega, by go_num, by rw [HO.out, HB.out]⟩
          case measure => simp [intOf]; omega
        · obtain rfl : k = m := by omega
          have hlk : l.take k = l := List.take_of_length_le (by rw [HL.out]; exact Nat.le_refl _)
          have hbl := be_lt64 l (by rw [HL.out]; omega)
          rw [hlk]
          clear hlk hc hs
          have HG := Lib.hid hgl
          clear hgl
          by_cases hmx : mxN < be l
          · have hmx' : (9007199254740991 : Int) < (be l : Int) := by unfold mxN at hmx; omega
            go_wp2_with (go_at_call 139; refine (fail_any p g _ _ _ hi).mono ?_; rintro e w' ⟨rfl, hi', hk'⟩)
            go_ret
            have hn : r.num (k : Int) = (0, (r.past k).fail 9) := by
              unfold RS.num
              rw [if_pos hw, Int.toNat_natCast, if_pos HT.out, HG.out, if_pos hmx]
            exact ⟨by rw [hn]; rfl, by rw [hn]; exact hi', hk.then hk' (by simp)⟩
          · have hmx' : ¬ (9007199254740991 : Int) < (be l : Int) := by unfold mxN at hmx; omega
            go_wp2
            go_ret
            have hn : r.num (k : Int) = (((be l : Nat) : Int), r.past k) := by
              unfold RS.num
              rw [if_pos hw, Int.toNat_natCast, if_pos HT.out, HG.out, if_neg hmx]
            exact ⟨by rw [hn]; go_num, by rw [hn]; exact hi, hk⟩
    · have HT := Lib.hid ht
      have HF : r.took m = false := by simpa using ht
      have HF' := Lib.hid HF
      clear HF ht
      go_enter Tryz.func94, Tryz.ntmps94
      go_wp2_with (first | (go_at_call 120; refine (isWidth_any _ _).mono ?_; rintro e w' ⟨rfl, rfl⟩) | (go_at_call 140; refine (take_any p g r m _ h).mono ?_; rintro e w1 ⟨A, c, rfl, hk1, hk2, hs, hi, hk⟩; rw [HF'.out]))
      go_ret
      have hn : r.num (m : Int) = (0, r.past m) := by
        unfold RS.num
        rw [if_pos hw, Int.toNat_natCast, if_neg HT.out]
      exact ⟨by rw [hn]; rfl, by rw [hn]; exact hi, hk⟩
  · have HW := Lib.hid hw
    have hw' : isW n = false := by simpa using hw
    clear hw
    go_enter Tryz.func94, Tryz.ntmps94
    go_wp2_with (first | (go_at_call 120; refine (isWidth_any _ _).mono ?_; rintro e w' ⟨rfl, rfl⟩) | (go_at_call 139; refine (fail_any p g _ _ _ h).mono ?_; rintro e w' ⟨rfl, hi', hk'⟩))
    go_ret
    have hn : r.num n = (0, r.fail 2) := by
      unfold RS.num
      rw [if_neg HW.out]
    exact ⟨by rw [hn]; rfl, by rw [hn]; exact hi', hk'⟩
end Go.Proofs.YthfdkonhjpdflaaGreatDoor
end

section
namespace Go.Proofs.YthfdkonhjpdflaaGreatDoor
open Go.RowKit
set_option linter.unusedVariables false

def bounded (n most : Int) (r : RS) : Int × RS := if (mxN : Int) < n then (0, r.fail 9) else if most < n then (0, r.fail 5) else (n, r)
def boundedPost (p g : Nat) (r : RS) (n most : Int) (w : World) (e : Ending) (w' : World) : Prop :=
  e = .returned (.int .i64 (bounded n most r).1) ∧ isR w' p g (bounded n most r).2 ∧ keepBut [p] w w'

set_option maxHeartbeats 400000 in
theorem bounded_any (p g : Nat) (r : RS) (n most : Int) (w : World) (h : isR w p g r) :
    Calls Tryz.prog 149 #[.pointer (some ⟨p, 0, none⟩), .int .i64 n, .int .i64 most] w (boundedPost p g r n most w) := by
  by_cases h1 : (9007199254740991 : Int) < n
  · have hn : bounded n most r = (0, r.fail 9) := by unfold bounded mxN; rw [if_pos (by omega)]
    have HN := Lib.hid hn
    clear hn
    go_enter Tryz.func149, Tryz.ntmps149
    go_wp2_with (go_at_call 139; refine (fail_any p g _ _ _ h).mono ?_; rintro e w' ⟨rfl, hi', hk'⟩)
    go_ret
    exact ⟨by rw [HN.out]; rfl, by rw [HN.out]; exact hi', hk'⟩
  · by_cases h2 : most < n
    · have hn : bounded n most r = (0, r.fail 5) := by unfold bounded mxN; rw [if_neg (by omega), if_pos h2]
      have HN := Lib.hid hn
      clear hn
      go_enter Tryz.func149, Tryz.ntmps149
      go_wp2_with (go_at_call 139; refine (fail_any p g _ _ _ h).mono ?_; rintro e w' ⟨rfl, hi', hk'⟩)
      go_ret
      exact ⟨by rw [HN.out]; rfl, by rw [HN.out]; exact hi', hk'⟩
    · have hn : bounded n most r = (n, r) := by unfold bounded mxN; rw [if_neg (by omega), if_neg h2]
      have HN := Lib.hid hn
      clear hn
      go_enter Tryz.func149, Tryz.ntmps149
      go_wp2
      go_ret
      exact ⟨by rw [HN.out]; rfl, by rw [HN.out]; exact h, keepBut.refl _ _⟩

def countPost (p g : Nat) (r : RS) (most : Int) (w : World) (e : Ending) (w' : World) : Prop :=
  e = .returned (.int .i64 (r.count most).1) ∧ isR w' p g (r.count most).2 ∧ keepBut [p] w w'

theorem cnt_nil (most : Int) (s n : Nat) : cnt most [] s n = (0, ⟨[], 3⟩) := by rw [cnt]
theorem cnt_bad (most : Int) (t : List UInt8) (n : Nat) (b : UInt8) (hb : b.toNat = 128) : cnt most (b :: t) 0 n = (0, ⟨[], 4⟩) := by
  rw [cnt, if_pos ⟨rfl, hb⟩]
theorem cnt_last (most : Int) (t : List UInt8) (s n : Nat) (b : UInt8) (hb : b.toNat < 128) :
    cnt most (b :: t) s n = bounded ((n * 128 + b.toNat % 128 : Nat) : Int) most ⟨t, 0⟩ := by
  rw [cnt, if_neg (by omega), if_pos hb]
  unfold bounded RS.fail
  rw [if_pos rfl, if_pos rfl]
  generalize n * 128 + b.toNat % 128 = m
  by_cases h1 : mxN < m
  · rw [if_pos h1, if_pos (by omega)]
  · rw [if_neg h1, if_neg (c := (mxN : Int) < m) (by omega)]
theorem cnt_long (most : Int) (t : List UInt8) (n : Nat) (b : UInt8) (hb : ¬ b.toNat < 128) : cnt most (b :: t) 7 n = (0, ⟨[], 4⟩) := by
  rw [cnt, if_neg (by omega), if_neg hb, if_pos rfl]
theorem cnt_on (most : Int) (t : List UInt8) (s n : Nat) (b : UInt8) (h0 : ¬ (s = 0 ∧ b.toNat = 128)) (hb : ¬ b.toNat < 128) (hs : s ≠ 7) :
    cnt most (b :: t) s n = cnt most t (s + 1) (n * 128 + b.toNat % 128) := by
  rw [cnt, if_neg h0, if_neg hb, if_neg hs]

def cntPost (p g : Nat) (l : List UInt8) (k n : Nat) (most : Int) (w : World) (e : Ending) (w' : World) : Prop :=
  e = .returned (.int .i64 (cnt most l k n).1) ∧ isR w' p g (cnt most l k n).2 ∧ keepBut [p] w w'
/-- what holds at the head of each round -/
def cntRel (p g : Nat) (l : List UInt8) (most : Int) (w : World) (n i : Value) (wr : World) : Prop :=
  ∃ (k m : Nat) (t : List UInt8), i = .int .i64 k ∧ n = .int .i64 m ∧ k ≤ 7 ∧ m < 128 ^ k ∧ isR wr p g ⟨t, 0⟩ ∧ keepBut [p] w wr ∧ cnt most t k m = cnt most l 0 0
theorem pow_le_7 (k m : Nat) (hk : k ≤ 7) (h : m < 128 ^ k) : m < 562949953421312 := by
  have h2 : 128 ^ k ≤ 128 ^ 7 := Nat.pow_le_pow_right (by decide) hk
  have : (128 : Nat) ^ 7 = 562949953421312 := by decide
  omega
theorem u8_and_wrap (b : UInt8) : IntKind.i64.wrap (bits .and .u8 (b.toNat : Int) 127) = ((b.toNat % 128 : Nat) : Int) := by
  rw [and_u8_127 _ b.toNat_lt, wraps_i64 _ (by omega) (by omega)]
theorem round_num (m : Nat) (b : UInt8) (hm : m < 562949953421312) :
    bits .or .i64 ((m : Int) * 128) (wrap64 (bits .and .u8 (b.toNat : Int) 127)) = ((m * 128 + b.toNat % 128 : Nat) : Int) := by
  have := u8_and_wrap b
  rw [show wrap64 (bits .and .u8 (b.toNat : Int) 127) = ((b.toNat % 128 : Nat) : Int) from by rw [and_u8_127 _ b.toNat_lt]; unfold wrap64; omega]
  exact or_i64_seven m _ (by omega) (by omega)

def oneNilPost (p g : Nat) (w : World) (e : Ending) (w' : World) : Prop :=
  e = .returned (.tuple #[.slice none 0 0, .bool false]) ∧ isR w' p g ⟨[], 3⟩ ∧ keepBut [p] w w'
theorem take1_nil (p g : Nat) (w : World) (h : isR w p g ⟨[], 0⟩) :
    Calls Tryz.prog 140 #[.pointer (some ⟨p, 0, none⟩), .int .i64 1] w fun e w' => ∃ A c, e = .returned (.tuple #[.slice A 0 c, .bool false]) ∧ isR w' p g ⟨[], 3⟩ ∧ keepBut [p] w w' := by
  refine (take_any p g _ 1 _ h).mono ?_
  rintro e w1 ⟨A, c, rfl, hk1, hk2, hs, hi, hkb1⟩
  exact ⟨A, c, rfl, hi, hkb1⟩
theorem take1_cons (p g : Nat) (b : UInt8) (t : List UInt8) (w : World) (h : isR w p g ⟨b :: t, 0⟩) :
    Calls Tryz.prog 140 #[.pointer (some ⟨p, 0, none⟩), .int .i64 1] w fun e w' => ∃ o c, e = .returned (.tuple #[.slice (some ⟨g, o, none⟩) 1 c, .bool true]) ∧ w'.cell? ⟨g, o, none⟩ = some (.int .u8 (b.toNat : Int)) ∧ isR w' p g ⟨t, 0⟩ ∧ keepBut [p] w w' := by
  refine (take_any p g _ 1 _ h).mono ?_
  rintro e w1 ⟨A, c, rfl, hk1, hk2, hs, hi, hkb1⟩
  have ht : RS.take ⟨b :: t, 0⟩ 1 = [b] := by simp [RS.take]
  have hp : RS.past ⟨b :: t, 0⟩ 1 = ⟨t, 0⟩ := by simp [RS.past]
  have hq : RS.took ⟨b :: t, 0⟩ 1 = true := by simp [RS.took]
  rw [ht] at hs
  rw [hp] at hi
  obtain ⟨o, rfl, hlt, hc⟩ := hs (by simp)
  exact ⟨o, c, by rw [ht, hq]; rfl, hc 0 b rfl, hi, hkb1⟩

set_option maxRecDepth 100000 in
set_option maxHeartbeats 1000000 in
theorem count_any0 (p g : Nat) (l : List UInt8) (most : Int) (w : World) (h : isR w p g ⟨l, 0⟩) :
    Calls Tryz.prog 102 #[.pointer (some ⟨p, 0, none⟩), .int .i64 most] w (cntPost p g l 0 0 most w) := by
  go_enter Tryz.func102, Tryz.ntmps102
  go_wp2
  go_step3
  go_wp2
  go_step3
  go_wp2
  go_loopw [5, 6] (fun n i wr => cntRel p g l most w n i wr) (fun _ i _ => 8 - (intOf i).toNat)
  case atStart => exact ⟨0, 0, l, rfl, rfl, by omega, by simp, h, keepBut.refl _ _, rfl⟩
  case round =>
    obtain ⟨k, m, t, rfl, rfl, hk, hm, hr, hkb, hc⟩ := hrel
    have hm7 := pow_le_7 k m hk hm
    have HC := Lib.hid hc
    clear hc
    rcases t with _ | ⟨b, t⟩
    · go_wp2_with (go_at_call 140; refine (take1_nil p g _ hr).mono ?_; rintro e w1 ⟨A, c, rfl, hi, hkb1⟩)
      rw [Exit.noGoto_ret]
      go_ret
      have hn := cnt_nil most k m
      rw [HC.out] at hn
      exact ⟨by rw [hn]; rfl, by rw [hn]; exact hi, hkb.then hkb1 (by simp)⟩
    · obtain ⟨x, hx⟩ : ∃ x : Nat, x = m * 128 + b.toNat % 128 := ⟨_, rfl⟩
      have hrn := round_num m b hm7
      rw [← hx] at hrn
      have hb256 := b.toNat_lt
      have hxb : x < 72057594037927936 := by omega
      have HX := Lib.hid hx
      clear hx
      by_cases hb : b.toNat < 128
      · have hz : ¬ (k = 0 ∧ b.toNat = 128) := by omega
        have hlast := cnt_last most t k m b hb
        rw [← HX.out, HC.out] at hlast
        have HL := Lib.hid hlast
        clear hlast
        go_wp2_with (first | (go_at_call 140; refine (take1_cons p g b t _ hr).mono ?_; rintro e w1 ⟨o, c, rfl, hcell, hi, hkb1⟩) | (go_at_call 149; refine (bounded_any p g _ (x : Int) most _ (by assumption)).mono ?_; rintro e w2 ⟨rfl, hi2, hkb2⟩))
        all_goals
          rw [Exit.noGoto_ret]
          go_ret
          exact ⟨by rw [HL.out]; rfl, by rw [HL.out]; assumption, (hkb.then (by assumption) (by simp)).then (by assumption) (by simp)⟩
      · by_cases h0 : k = 0 ∧ b.toNat = 128
        · obtain ⟨rfl, hb2⟩ := h0
          have hn := cnt_bad most t m b hb2
          rw [HC.out] at hn
          have HN := Lib.hid hn
          clear hn
          go_wp2_with (first | (go_at_call 140; refine (take1_cons p g b t _ hr).mono ?_; rintro e w1 ⟨o, c, rfl, hcell, hi, hkb1⟩) | (go_at_call 139; refine (fail_any p g _ _ _ (by assumption)).mono ?_; rintro e w2 ⟨rfl, hi2, hkb2⟩))
          all_goals
            rw [Exit.noGoto_ret]
            go_ret
            exact ⟨by rw [HN.out]; rfl, by rw [HN.out]; assumption, (hkb.then (by assumption) (by simp)).then (by assumption) (by simp)⟩
        · by_cases h7 : k = 7
          · subst h7
            have hn := cnt_long most t m b hb
            rw [HC.out] at hn
            have HN := Lib.hid hn
            clear hn
            go_wp2_with (first | (go_at_call 140; refine (take1_cons p g b t _ hr).mono ?_; rintro e w1 ⟨o, c, rfl, hcell, hi, hkb1⟩) | (go_at_call 139; refine (fail_any p g _ _ _ (by assumption)).mono ?_; rintro e w2 ⟨rfl, hi2, hkb2⟩))
            all_goals
              rw [Exit.noGoto_ret]
              go_ret
              exact ⟨by rw [HN.out]; rfl, by rw [HN.out]; assumption, (hkb.then (by assumption) (by simp)).then (by assumption) (by simp)⟩
          · have hn := cnt_on most t k m b h0 hb h7
            rw [HC.out, ← HX.out] at hn
            have HN := Lib.hid hn
            clear hn
            go_wp2_with (first | (go_at_call 140; refine (take1_cons p g b t _ hr).mono ?_; rintro e w1 ⟨o, c, rfl, hcell, hi, hkb1⟩))
            all_goals
              go_roundw
              case rel => exact ⟨k + 1, x, t, by go_num, rfl, by omega, by have := HX.out; rw [Nat.pow_succ]; omega, by assumption, hkb.then (by assumption) (by simp), HN.out.symm⟩
              case measure => simp [intOf]; omega

set_option maxRecDepth 100000 in
set_option maxHeartbeats 1000000 in
theorem count_any1 (p g : Nat) (r : RS) (most : Int) (w : World) (h : isR w p g r) (he : r.e ≠ 0) :
    Calls Tryz.prog 102 #[.pointer (some ⟨p, 0, none⟩), .int .i64 most] w (countPost p g r most w) := by
  have hn : r.count most = (0, r) := by simp [RS.count, he]
  have ht : ∀ w, isR w p g r → Calls Tryz.prog 140 #[.pointer (some ⟨p, 0, none⟩), .int .i64 1] w fun e w' => ∃ A c, e = .returned (.tuple #[.slice A 0 c, .bool false]) ∧ isR w' p g r ∧ keepBut [p] w w' := by
    intro w h
    refine (take_any p g _ 1 _ h).mono ?_
    rintro e w1 ⟨A, c, rfl, hk1, hk2, hs, hi, hkb1⟩
    have h1 : r.take 1 = [] := by simp [RS.take, he]
    have h2 : r.took 1 = false := by simp [RS.took, he]
    have h3 : r.past 1 = r := by simp [RS.past, he]
    rw [h1, h2]
    rw [h3] at hi
    exact ⟨A, c, rfl, hi, hkb1⟩
  have HN := Lib.hid hn
  have HT := Lib.hid ht
  clear hn ht he
  go_enter Tryz.func102, Tryz.ntmps102
  go_wp2
  go_step3
  go_wp2
  go_step3
  go_wp2
  refine wp_loop_rounds 1 ?_
  rw [rounds_succ]
  go_wp2_with (go_at_call 140; refine (HT.out _ h).mono ?_; rintro e w1 ⟨A, c, rfl, hi, hkb1⟩)
  rw [Exit.noGoto_ret]
  go_ret
  exact ⟨by rw [HN.out]; rfl, by rw [HN.out]; exact hi, hkb1⟩

theorem count_any (p g : Nat) (r : RS) (most : Int) (w : World) (h : isR w p g r) :
    Calls Tryz.prog 102 #[.pointer (some ⟨p, 0, none⟩), .int .i64 most] w (countPost p g r most w) := by
  by_cases he : r.e = 0
  · obtain ⟨l, e⟩ := r
    simp only at he
    subst he
    have hcnt : (RS.mk l 0).count most = cnt most l 0 0 := by simp [RS.count]
    unfold countPost
    rw [hcnt]
    exact count_any0 p g l most w h
  · exact count_any1 p g r most w h he

/-- a new slice that reads as l: it is empty, or lies in a block that was not there -/
def freshB (w w' : World) (v : Value) (l : List UInt8) : Prop :=
  owns w' 5 1 v l.length (l.map bv) ∧ ∀ x ∈ homes v, w.heap.size ≤ x

def rawPost (p g : Nat) (r : RS) (n : Int) (w : World) (e : Ending) (w' : World) : Prop :=
  ∃ v, e = .returned v ∧ freshB w w' v (r.raw n).1 ∧ isR w' p g (r.raw n).2 ∧ keepBut [p] w w'

theorem infoU8 : (Tryz.prog.info? 5).map (fun i => (i.zero, i.size, i.bytes)) = some (some (.int .u8 0), 1, 1) := by kernel_rfl

theorem isR.bound {w : World} {p g : Nat} {r : RS} (h : isR w p g r) : r.l.length ≤ maxLen := by
  obtain ⟨A, c, _, h2, h3, _⟩ := h; omega

set_option maxHeartbeats 1000000 in
theorem raw_any (p g : Nat) (r : RS) (n : Int) (w : World) (h : isR w p g r) (hb : r.l.length ≤ 140737488355328) :
    Calls Tryz.prog 150 #[.pointer (some ⟨p, 0, none⟩), .int .i64 n] w (rawPost p g r n w) := by
  by_cases hn : n < 0
  · have hr : r.raw n = ([], r.fail 2) := by simp [RS.raw, hn]
    have HR := Lib.hid hr
    clear hr
    go_enter Tryz.func150, Tryz.ntmps150
    go_wp2_with (go_at_call 139; refine (fail_any p g _ _ _ h).mono ?_; rintro e w' ⟨rfl, hi', hk'⟩)
    go_ret
    exact ⟨_, rfl, by rw [HR.out]; exact ⟨owns.nil _ _ _, by simp [homes, Value.ownBlock]⟩, by rw [HR.out]; exact hi', hk'⟩
  · obtain ⟨m, rfl⟩ : ∃ m : Nat, n = (m : Int) := ⟨n.toNat, by omega⟩
    have hr : r.raw (m : Int) = (r.take m, r.past m) := by unfold RS.raw; rw [if_neg hn]; rfl
    have HR := Lib.hid hr
    clear hr
    obtain ⟨i0, hi0, hz0, hz1, hz2⟩ := info_parts infoU8
    by_cases ht : r.took m = true
    · have HT := Lib.hid ht
      have hlen : (r.take m).length ≤ r.l.length := by
        unfold RS.take; split
        · rw [List.length_take]; omega
        · simp
      go_enter Tryz.func150, Tryz.ntmps150
      go_wp2_with (first | (go_at_call 140; refine (take_any p g r m _ h).mono ?_; rintro e w1 ⟨A, c, rfl, hk1, hk2, hs, hi, hk⟩) | (at_builtin; refine wp_append _ rfl _ _ 24 rfl 5 i0 (.int .u8 0) 1 1 Tryz.underlying24 hi0 hz0 hz1 hz2 rfl (by decide) _ 0 [] rfl (owns.nil _ _ _) _ g _ _ _ rfl (seen.reads (by assumption)) ?c1 ?c2 ?c3 ?_))
      case c1 => intro u hu; simp at hu; obtain ⟨b, _, rfl⟩ := hu; rfl
      case c2 => omega
      case c3 => unfold maxLen at *; omega
      · intro A' c' w2 hown hkb2 hloc
        go_wp2
        go_ret
        try simp only [Nat.zero_add, List.nil_append] at hown
        have hfr : freshB w w2 (.slice A' (r.take m).length c') (r.take m) := by
          refine ⟨by simpa using hown, fun x hx => ?_⟩
          rcases hloc x (by simpa using hx) with h1 | h1
          · simp [homes_none] at h1
          · have := hk.size; omega
        exact ⟨_, rfl, by rw [HR.out]; exact hfr, by rw [HR.out]; exact hi.keep hkb2 (by simp [homes_none]) (by simp [homes_none]), hk.then hkb2 (by simp [homes_none])⟩
    · have HT : r.took m = false := by simpa using ht
      have hnil : r.take m = [] := by
        unfold RS.take; rw [if_neg (by rw [← RS.took_iff]; exact ht)]
      have HT' := Lib.hid HT
      have HN := Lib.hid hnil
      clear HT hnil ht
      go_enter Tryz.func150, Tryz.ntmps150
      go_wp2_with (go_at_call 140; refine (take_any p g r m _ h).mono ?_; rintro e w1 ⟨A, c, rfl, hk1, hk2, hs, hi, hk⟩; rw [HT'.out])
      go_ret
      exact ⟨_, rfl, by rw [HR.out, HN.out]; exact ⟨owns.nil _ _ _, by simp [homes, Value.ownBlock]⟩, by rw [HR.out]; exact hi, hk⟩

def textPost (p g : Nat) (r : RS) (n : Int) (w : World) (e : Ending) (w' : World) : Prop :=
  ∃ v, e = .returned v ∧ freshB w w' v (r.text n).1 ∧ isR w' p g (r.text n).2 ∧ keepBut [p] w w'

theorem cnt_short (most : Int) : ∀ (l : List UInt8) (s n : Nat), (cnt most l s n).2.l.length ≤ l.length := by
  intro l
  induction l with
  | nil => intro s n; simp [cnt]
  | cons b t ih =>
    intro s n
    unfold cnt
    split
    · simp
    · split
      · split
        · simp
        · split <;> simp
      · split
        · simp
        · have := ih (s + 1) (n * 128 + b.toNat % 128); simp only [List.length_cons]; omega
theorem RS.count_short (r : RS) (most : Int) : (r.count most).2.l.length ≤ r.l.length := by
  unfold RS.count; split
  · exact cnt_short _ _ _ _
  · exact Nat.le_refl _

set_option maxHeartbeats 1000000 in
theorem text_any (p g : Nat) (r : RS) (n : Int) (w : World) (h : isR w p g r) (hb : r.l.length ≤ 140737488355328) :
    Calls Tryz.prog 104 #[.pointer (some ⟨p, 0, none⟩), .int .i64 n] w (textPost p g r n w) := by
  have hb2 := RS.count_short r n
  go_enter Tryz.func104, Tryz.ntmps104
  go_wp2_with (first | (go_at_call 102; refine (count_any p g r n _ h).mono ?_; rintro e w1 ⟨rfl, hi, hk⟩) | (go_at_call 150; refine (raw_any p g _ _ _ (by assumption) (by omega)).mono ?_; rintro e w2 ⟨v, rfl, hf, hi2, hk2⟩))
  go_ret
  exact ⟨_, rfl, ⟨hf.1, fun x hx => by have := hf.2 x hx; have := hk.size; omega⟩, hi2, hk.then hk2 (by simp)⟩

set_option maxHeartbeats 400000 in
theorem left_any (p g : Nat) (r : RS) (w : World) (h : isR w p g r) :
    Calls Tryz.prog 153 #[.pointer (some ⟨p, 0, none⟩)] w fun e w' => e = .returned (.int .i64 r.l.length) ∧ w = w' := by
  obtain ⟨A, c, h1, h2, h3, h4, h5⟩ := h
  have hc0 : w.cell? ⟨p, 0, none⟩ = some (.slice A r.l.length c) := h1.cell 0
  go_enter Tryz.func153, Tryz.ntmps153
  go_wp2
  go_ret
  exact ⟨rfl, rfl⟩
set_option maxHeartbeats 400000 in
theorem err_any (p g : Nat) (r : RS) (w : World) (h : isR w p g r) :
    Calls Tryz.prog 141 #[.pointer (some ⟨p, 0, none⟩)] w fun e w' => e = .returned (.int .i64 r.e) ∧ w = w' := by
  obtain ⟨A, c, h1, h2, h3, h4, h5⟩ := h
  have hc1 : w.cell? ⟨p, 1, none⟩ = some (.int .i64 r.e) := h1.cell 1
  go_enter Tryz.func141, Tryz.ntmps141
  go_wp2
  go_ret
  exact ⟨rfl, rfl⟩
set_option maxHeartbeats 400000 in
theorem end_any (p g : Nat) (r : RS) (w : World) (h : isR w p g r) :
    Calls Tryz.prog 147 #[.pointer (some ⟨p, 0, none⟩)] w fun e w' => e = .returned (.int .i64 r.end_) ∧ w = w' := by
  by_cases he : r.e = 0
  · have he' : (r.e != 0) = false := by simp [he]
    by_cases hl : r.l = []
    · have hx : r.end_ = 0 := by simp [RS.end_, he, hl]
      have hy : ¬ (0 : Int) < (r.l.length : Int) := by simp [hl]
      have HX := Lib.hid hx
      clear hx he hl
      go_enter Tryz.func147, Tryz.ntmps147
      go_wp2_with (first | (go_at_call 141; refine (err_any p g r _ h).mono ?_; rintro e w' ⟨rfl, rfl⟩) | (go_at_call 153; refine (left_any p g r _ h).mono ?_; rintro e w' ⟨rfl, rfl⟩))
      go_ret
      exact ⟨by rw [HX.out]; rfl, rfl⟩
    · have hx : r.end_ = 4 := by simp [RS.end_, he, hl]
      have hy : (0 : Int) < (r.l.length : Int) := by
        have := List.length_pos_iff.2 hl; omega
      have HX := Lib.hid hx
      clear hx he hl
      go_enter Tryz.func147, Tryz.ntmps147
      go_wp2_with (first | (go_at_call 141; refine (err_any p g r _ h).mono ?_; rintro e w' ⟨rfl, rfl⟩) | (go_at_call 153; refine (left_any p g r _ h).mono ?_; rintro e w' ⟨rfl, rfl⟩))
      go_ret
      exact ⟨by rw [HX.out]; rfl, rfl⟩
  · have he' : (r.e != 0) = true := by simp [he]
    have hx : r.end_ = r.e := by simp [RS.end_, he]
    have HX := Lib.hid hx
    clear hx he
    go_enter Tryz.func147, Tryz.ntmps147
    go_wp2_with (first | (go_at_call 141; refine (err_any p g r _ h).mono ?_; rintro e w' ⟨rfl, rfl⟩))
    go_ret
    exact ⟨by rw [HX.out]; rfl, rfl⟩
end Go.Proofs.YthfdkonhjpdflaaGreatDoor
end

section
namespace Go.Proofs.YthfdkonhjpdflaaGreatDoor
open Go.RowKit
set_option linter.unusedVariables false

/-- block p is a writer that stands at s; v is its slice -/
def isWr (w : World) (p : Nat) (v : Value) (s : WS) : Prop :=
  rowAt w p 127 #[v, .int .i64 s.e] ∧ owns w 5 1 v s.b.length (s.b.map bv)

theorem isWr.apart {w : World} {p : Nat} {v : Value} {s : WS} (h : isWr w p v s) : p ∉ homes v := h.2.apart h.1 (by decide)
theorem isWr.keep {S : List Nat} {w w' : World} {p : Nat} {v : Value} {s : WS} (h : isWr w p v s) (hk : keepBut S w w') (hp : p ∉ S) (hS : ∀ x ∈ homes v, x ∉ S) : isWr w' p v s :=
  ⟨hk.row h.1 hp, h.2.keep hk hS⟩

/-- what every method of a writer leaves -/
def wrPost (p : Nat) (v : Value) (s : WS) (w : World) (e : Ending) (w' : World) : Prop :=
  e = .returned (.pointer (some ⟨p, 0, none⟩)) ∧ ∃ v', isWr w' p v' s ∧ keepBut (p :: homes v) w w' ∧ ∀ x ∈ homes v', x ∈ homes v ∨ w.heap.size ≤ x

theorem infoU8w : (Tryz.prog.info? 5).map (fun i => (i.zero, i.size, i.bytes)) = some (some (.int .u8 0), 1, 1) := by kernel_rfl

set_option maxHeartbeats 400000 in
theorem closed_any (p : Nat) (v : Value) (s : WS) (w : World) (h : isWr w p v s) :
    Calls Tryz.prog 119 #[.pointer (some ⟨p, 0, none⟩)] w fun e w' => e = .returned (.bool (s.e != 0)) ∧ w = w' := by
  have hc1 : w.cell? ⟨p, 1, none⟩ = some (.int .i64 s.e) := h.1.cell 1
  by_cases he : s.e = 0
  · have he' : (s.e != 0) = false := by simp [he]
    clear he
    go_enter Tryz.func119, Tryz.ntmps119
    go_wp2
    go_ret
    exact ⟨by rw [he']; rfl, rfl⟩
  · have he' : (s.e != 0) = true := by simp [he]
    clear he
    go_enter Tryz.func119, Tryz.ntmps119
    go_wp2
    go_ret
    exact ⟨by rw [he']; rfl, rfl⟩

theorem fits_shift (m : Nat) (hm : m ≤ 8) : IntKind.i64.wrap (2 ^ (8 * m)) = if m = 8 then 0 else (2 : Int) ^ (8 * m) := by
  have : m = 0 ∨ m = 1 ∨ m = 2 ∨ m = 3 ∨ m = 4 ∨ m = 5 ∨ m = 6 ∨ m = 7 ∨ m = 8 := by omega
  rcases this with h | h | h | h | h | h | h | h | h <;> subst h <;> decide

set_option maxHeartbeats 400000 in
theorem fits_any (width n : Int) (w : World) (hw : isW width = true) :
    Calls Tryz.prog 121 #[.int .i64 width, .int .i64 n] w fun e w' => e = .returned (.bool (fitsP width n)) ∧ w = w' := by
  by_cases h0 : 0 ≤ n
  · rcases isW_cases hw with rfl | rfl | rfl | rfl
    · have hf : fitsP 1 n = decide (n < 256) := by simp [fitsP, h0]
      have HF := Lib.hid hf
      clear hf
      go_enter Tryz.func121, Tryz.ntmps121
      go_wp2
      go_ret
      exact ⟨by rw [HF.out]; rfl, rfl⟩
    · have hf : fitsP 2 n = decide (n < 65536) := by simp [fitsP, h0]
      have HF := Lib.hid hf
      clear hf
      go_enter Tryz.func121, Tryz.ntmps121
      go_wp2
      go_ret
      exact ⟨by rw [HF.out]; rfl, rfl⟩
    · have hf : fitsP 4 n = decide (n < 4294967296) := by simp [fitsP, h0]
      have HF := Lib.hid hf
      clear hf
      go_enter Tryz.func121, Tryz.ntmps121
      go_wp2
      go_ret
      exact ⟨by rw [HF.out]; rfl, rfl⟩
    · have hf : fitsP 8 n = decide (n ≤ 9007199254740991) := by (simp [fitsP, h0, mxN]; rfl)
      have HF := Lib.hid hf
      clear hf
      go_enter Tryz.func121, Tryz.ntmps121
      go_wp2
      go_ret
      exact ⟨by rw [HF.out]; rfl, rfl⟩
  · have hf : fitsP width n = false := by simp [fitsP, h0]
    have HF := Lib.hid hf
    clear hf
    rcases isW_cases hw with rfl | rfl | rfl | rfl
    all_goals
      go_enter Tryz.func121, Tryz.ntmps121
      go_wp2
      go_ret
      exact ⟨by rw [HF.out]; rfl, rfl⟩

/-- a new slice is stored into the writer -/
theorem wr_store {w W w2 : World} {p n : Nat} {v' : Value} {A2 : Option Addr} {c2 : Nat} {b1 l : List UInt8} {e : Int} (h : isWr w p v' ⟨b1, e⟩) (hW : keepBut [] w W) (hk : keepBut (homes v') W w2)
    (hown : owns w2 5 1 (.slice A2 n c2) n ((b1 ++ l).map bv)) (hloc : ∀ x ∈ homes (.slice A2 n c2), x ∈ homes v' ∨ W.heap.size ≤ x) :
    isWr (w2.setCell ⟨p, 0, none⟩ (.slice A2 n c2)) p (.slice A2 n c2) ⟨b1 ++ l, e⟩ ∧ keepBut (p :: homes v') w (w2.setCell ⟨p, 0, none⟩ (.slice A2 n c2)) ∧
      ∀ x ∈ homes (.slice A2 n c2), x ∈ homes v' ∨ w.heap.size ≤ x := by
  have hp2 := hk.row (hW.row h.1 (by simp)) h.apart
  have hap := hown.apart hp2 (by decide)
  have hn : n = (b1 ++ l).length := by have := hown.1; simp only [List.length_map] at this; omega
  have hk2 : keepBut (p :: homes v') w w2 := (hW.more (T := p :: homes v') (by simp)).then hk (fun x hx => .inl (by simp [hx]))
  refine ⟨⟨hp2.set 0 _, ?_⟩, hk2.setCell _ _ (.inl (by simp)), fun x hx => (hloc x hx).imp id (fun h => by have := hW.size; omega)⟩
  rw [← hn]
  exact hown.keep ((keepBut.refl [p] w2).setCell _ _ (.inl (by simp))) (fun x hx hxp => hap (by simp at hxp; rw [← hxp]; exact hx))

theorem wr_fail {w : World} {p : Nat} {v : Value} {s : WS} (h : isWr w p v s) (x : Int) : isWr (w.setCell ⟨p, 1, none⟩ (.int .i64 x)) p v ⟨s.b, x⟩ :=
  ⟨h.1.set 1 _, h.2.keep ((keepBut.refl [p] w).setCell _ _ (.inl (by simp))) (fun x hx hxp => h.apart (by simp at hxp; rw [← hxp]; exact hx))⟩

theorem beBytes_length (m k : Nat) : (beBytes m k).length = m := by simp [beBytes]
theorem beBytes_at (m k i : Nat) (h : i < m) : (beBytes m k)[i]? = some (UInt8.ofNat (k / 256 ^ (m - 1 - i) % 256)) := by
  simp [beBytes, h]
theorem shift_byte (k d : Nat) (c : Int) (hd : d ≤ 7) (hc : c = 8 * (d : Int)) :
    Value.int .u8 (IntKind.u8.wrap ((k : Int) / 2 ^ min c.toNat 64)) = bv (UInt8.ofNat (k / 256 ^ d % 256)) := by
  have h1 : min c.toNat 64 = 8 * d := by omega
  have h3 : (2 : Int) ^ (8 * d) = ((256 ^ d : Nat) : Int) := by
    rw [show (256 : Nat) ^ d = 2 ^ (8 * d) from by rw [Nat.pow_mul]]
    simp
  rw [h1, h3, IntKind.wrap_u8]
  unfold bv
  have h2 : (UInt8.ofNat (k / 256 ^ d % 256)).toNat = k / 256 ^ d % 256 := by
    rw [UInt8.toNat_ofNat']
    omega
  rw [h2]
  simp

/-- what holds at the head of each round of Num -/
def numRel (p : Nat) (v : Value) (s : WS) (m k : Nat) (w : World) (i : Value) (wr : World) : Prop :=
  ∃ (j : Nat) (v' : Value), i = .int .i64 j ∧ j ≤ m ∧ isWr wr p v' ⟨s.b ++ (beBytes m k).take j, 0⟩ ∧ keepBut (p :: homes v) w wr ∧ ∀ x ∈ homes v', x ∈ homes v ∨ w.heap.size ≤ x

set_option maxRecDepth 100000 in
set_option maxHeartbeats 1000000 in
theorem wnum_any (p : Nat) (v : Value) (s : WS) (width n : Int) (w : World) (h : isWr w p v s) (hb : s.b.length ≤ 1000000000) :
    Calls Tryz.prog 42 #[.pointer (some ⟨p, 0, none⟩), .int .i64 width, .int .i64 n] w (wrPost p v (s.num width n) w) := by
  have hc1 : w.cell? ⟨p, 1, none⟩ = some (.int .i64 s.e) := h.1.cell 1
  have hf1 := h.1.free 1
  by_cases he : s.e = 0
  · have he' : (s.e != 0) = false := by simp [he]
    have HE := Lib.hid he
    clear he
    by_cases hw : isW width = true
    · by_cases hfit : fitsP width n = true
      · obtain ⟨m, rfl⟩ : ∃ m : Nat, width = (m : Int) := ⟨width.toNat, by rcases isW_cases hw with h | h | h | h <;> omega⟩
        have hm : 1 ≤ m ∧ m ≤ 8 := by rcases isW_cases hw with h | h | h | h <;> omega
        obtain ⟨k, rfl⟩ : ∃ k : Nat, n = (k : Int) := ⟨n.toNat, by have : 0 ≤ n := (by simp [fitsP] at hfit; exact hfit.1)
                                                                   omega⟩
        have HFit := Lib.hid hfit
        have HW := Lib.hid hw
        go_enter Tryz.func42, Tryz.ntmps42
        go_wp2_with (first | (go_at_call 119; refine (closed_any p v s _ h).mono ?_; rintro e w' ⟨rfl, rfl⟩) | (go_at_call 120; refine (isWidth_any _ _).mono ?_; rintro e w' ⟨rfl, rfl⟩) | (go_at_call 121; refine (fits_any _ _ _ HW.out).mono ?_; rintro e w' ⟨rfl, rfl⟩))
        obtain ⟨i0, hi0, hz0, hz1, hz2⟩ := info_parts infoU8w
        go_loopw [27] (fun i wr => numRel p v s m k w i wr) (fun i _ => m - (intOf i).toNat)
        case atStart => exact ⟨0, v, rfl, by omega, by have := HE.out; simp only [List.take_zero, List.append_nil, ← this]; exact h, keepBut.refl _ _, fun x hx => .inl hx⟩
        case round =>
          obtain ⟨i, v', rfl, hi, hwr, hkb, hhm⟩ := hrel
          have hcell0 : wr.cell? ⟨p, 0, none⟩ = some v' := hwr.1.cell 0
          have hfree0 := hwr.1.free 0
          have hown := hwr.2
          have hN : (s.b ++ (beBytes m k).take i).length ≤ 1000000008 := by
            have := List.length_take_le i (beBytes m k)
            rw [List.length_append]; omega
          generalize hxs : (s.b ++ (beBytes m k).take i).map bv = xs at hown
          generalize hnn : (s.b ++ (beBytes m k).take i).length = N at hown hN
          have HXS := Lib.hid (And.intro hxs hnn)
          clear hxs hnn
          by_cases hlt : i < m
          · have HO := Lib.hid hown
            clear hown
            have HD := Lib.hid hwr
            clear hwr
            obtain ⟨a, ha⟩ : ∃ a : Int, a = (m : Int) - 1 := ⟨_, rfl⟩
            have hA : IntKind.i64.wrap ((m : Int) - 1) = a := by rw [ha]; exact wraps_i64 _ (by omega) (by omega)
            obtain ⟨b, hb2⟩ : ∃ b : Int, b = a - i := ⟨_, rfl⟩
            have hB : IntKind.i64.wrap (a - (i : Int)) = b := by rw [hb2]; exact wraps_i64 _ (by omega) (by omega)
            obtain ⟨c, hc⟩ : ∃ c : Int, c = 8 * b := ⟨_, rfl⟩
            have hC : IntKind.i64.wrap (8 * b) = c := by rw [hc]; exact wraps_i64 _ (by omega) (by omega)
            have hc0 : 0 ≤ c := by omega
            have HH := Lib.hid (And.intro ha (And.intro hb2 hc))
            clear ha hb2 hc
            have hplt := HD.out.1.lt
            go_wp2
            go_region_law (refine step_append _ rfl (.tmp 34) (.tmp 43) 24 rfl 5 i0 (.int .u8 0) 1 1 Tryz.underlying24 hi0 hz0 hz1 hz2 rfl (by decide) v' N xs (by simp [Act.eval]) (by first | exact (HO.out.alloc _) | exact HO.out.drew.alloc _ | exact (HO.out.alloc _).drew) _ _ 1 1 _ (by simp [Act.eval]) (reads_one _ _ _) (by intro u hu; simp at hu; subst hu; rfl) (by omega) (by unfold maxLen; omega) ?_; intro A2 c2 w2 hown2 hkb2 hloc2; have hW2 := hkb2.row (by first | exact ((keepBut.refl [] wr).drew.alloc _).row HD.out.1 (by simp) | exact ((keepBut.refl [] wr).alloc _).drew.row HD.out.1 (by simp)) HD.out.apart; have hcell2 : w2.cell? ⟨p, 0, none⟩ = some v' := hW2.cell 0; have hfree2 := hW2.free 0)
            all_goals
              obtain ⟨ha, hb3, hc3⟩ := HH.out
              have hbyte := shift_byte k (m - 1 - i) c (by omega) (by omega)
              have hx := beBytes_at m k i hlt
              rw [hbyte, ← HXS.out.1] at hown2
              have hst := wr_store HD.out (by first | exact (keepBut.refl [] wr).drew.alloc _ | exact ((keepBut.refl [] wr).alloc _).drew) hkb2 (l := [UInt8.ofNat (k / 256 ^ (m - 1 - i) % 256)]) (by rw [List.map_append]; exact hown2) hloc2
              have hbs : s.b ++ (beBytes m k).take i ++ [UInt8.ofNat (k / 256 ^ (m - 1 - i) % 256)] = s.b ++ (beBytes m k).take (i + 1) := by
                rw [List.take_add_one, hx, List.append_assoc]; rfl
              rw [hbs] at hst
              have HST := Lib.hid hst
              clear hst hown2 hbyte hx hbs ha hb3 hc3 hA hB hC hc0 hkb2 hloc2 hW2 hcell2 hfree2
              go_wp2
              go_roundw
              case rel => exact ⟨i + 1, _, by go_num, by omega, HST.out.1, hkb.then HST.out.2.1 (fun x hx => by rcases List.mem_cons.1 hx with rfl | hx; exact .inl (by simp); exact (hhm x hx).imp (fun h => by simp [h]) id), fun x hx => by rcases HST.out.2.2 x hx with h | h; exact hhm x h; have := hkb.size; exact .inr (by omega)⟩
              case measure => simp [intOf]; omega
          · obtain rfl : i = m := by omega
            have hfin : s.num (i : Int) (k : Int) = ⟨s.b ++ beBytes i k, 0⟩ := by
              unfold WS.num
              rw [if_pos HE.out, if_pos HW.out, if_pos HFit.out]; rfl
            have hall : (beBytes i k).take i = beBytes i k := List.take_of_length_le (by rw [beBytes_length]; exact Nat.le_refl _)
            rw [hall] at hwr
            have HFin := Lib.hid hfin
            clear hfin hall
            have HD := Lib.hid hwr
            clear hwr hown
            go_wp2
            go_ret
            exact ⟨rfl, v', by rw [HFin.out]; exact HD.out, hkb, hhm⟩
      · have hfin : s.num width n = ⟨s.b, 9⟩ := by
          unfold WS.num
          rw [if_pos HE.out, if_pos hw, if_neg hfit]
        have hfit' : fitsP width n = false := by simpa using hfit
        have HFin := Lib.hid hfin
        have HF := Lib.hid hfit'
        have HW := Lib.hid hw
        clear hfin hfit hfit' hw
        go_enter Tryz.func42, Tryz.ntmps42
        go_wp2_with (first | (go_at_call 119; refine (closed_any p v s _ h).mono ?_; rintro e w' ⟨rfl, rfl⟩) | (go_at_call 120; refine (isWidth_any _ _).mono ?_; rintro e w' ⟨rfl, rfl⟩; rw [HW.out]) | (go_at_call 121; refine (fits_any _ _ _ HW.out).mono ?_; rintro e w' ⟨rfl, rfl⟩; rw [HF.out]))
        go_ret
        exact ⟨rfl, v, by rw [HFin.out]; exact wr_fail h 9, (keepBut.refl _ _).setCell _ _ (.inl (by simp)), fun x hx => .inl hx⟩
    · have hfin : s.num width n = ⟨s.b, 2⟩ := by
        unfold WS.num
        rw [if_pos HE.out, if_neg hw]
      have hw' : isW width = false := by simpa using hw
      have HFin := Lib.hid hfin
      have HW := Lib.hid hw'
      clear hfin hw hw'
      go_enter Tryz.func42, Tryz.ntmps42
      go_wp2_with (first | (go_at_call 119; refine (closed_any p v s _ h).mono ?_; rintro e w' ⟨rfl, rfl⟩) | (go_at_call 120; refine (isWidth_any _ _).mono ?_; rintro e w' ⟨rfl, rfl⟩; rw [HW.out]))
      go_ret
      exact ⟨rfl, v, by rw [HFin.out]; exact wr_fail h 2, (keepBut.refl _ _).setCell _ _ (.inl (by simp)), fun x hx => .inl hx⟩
  · have hfin : s.num width n = s := by
      unfold WS.num
      rw [if_neg he]
    have he' : (s.e != 0) = true := by simp [he]
    have HFin := Lib.hid hfin
    clear hfin he
    go_enter Tryz.func42, Tryz.ntmps42
    go_wp2_with (first | (go_at_call 119; refine (closed_any p v s _ h).mono ?_; rintro e w' ⟨rfl, rfl⟩))
    go_ret
    exact ⟨rfl, v, by rw [HFin.out]; exact h, keepBut.refl _ _, fun x hx => .inl hx⟩
end Go.Proofs.YthfdkonhjpdflaaGreatDoor
end

section
namespace Go.Proofs.YthfdkonhjpdflaaGreatDoor
open Go.RowKit
set_option linter.unusedVariables false

theorem cbHi_zero : cbHi 0 = [] := by rw [cbHi]; simp
theorem cbHi_pos (n : Nat) (h : 0 < n) : cbHi n = cbHi (n / 128) ++ [UInt8.ofNat (128 + n % 128)] := by
  rw [cbHi, dif_neg (by omega)]
theorem cbHi_len : ∀ (j n : Nat), (cbHi n).length ≤ j ↔ n < 128 ^ j := by
  intro j
  induction j with
  | zero =>
    intro n
    rcases Nat.eq_zero_or_pos n with rfl | h
    · simp [cbHi_zero]
    · rw [cbHi_pos n h]; simp; omega
  | succ j ih =>
    intro n
    rcases Nat.eq_zero_or_pos n with rfl | h
    · simp [cbHi_zero]; exact Nat.pos_of_ne_zero (by simp)
    · rw [cbHi_pos n h]
      have := ih (n / 128)
      simp only [List.length_append, List.length_cons, List.length_nil, Nat.zero_add, Nat.add_le_add_iff_right, this, Nat.pow_succ]
      rw [Nat.div_lt_iff_lt_mul (by decide)]
theorem cbHi_at : ∀ (m n i : Nat), n ≤ m → i < (cbHi n).length → (cbHi n)[i]? = some (UInt8.ofNat (128 + n / 128 ^ ((cbHi n).length - 1 - i) % 128)) := by
  intro m
  induction m with
  | zero =>
    intro n i hn hi
    obtain rfl : n = 0 := by omega
    simp [cbHi_zero] at hi
  | succ m ih =>
    intro n i hn hi
    rcases Nat.eq_zero_or_pos n with rfl | h
    · simp [cbHi_zero] at hi
    · rw [cbHi_pos n h] at hi ⊢
      simp only [List.length_append, List.length_cons, List.length_nil, Nat.zero_add] at hi ⊢
      by_cases hlast : i < (cbHi (n / 128)).length
      · rw [List.getElem?_append_left hlast, ih (n / 128) i (by omega) hlast]
        have : (cbHi (n / 128)).length + 1 - 1 - i = ((cbHi (n / 128)).length - 1 - i) + 1 := by omega
        rw [this, Nat.pow_succ, Nat.mul_comm, ← Nat.div_div_eq_div_mul]
      · obtain rfl : i = (cbHi (n / 128)).length := by omega
        simp
theorem cb_more (n g : Nat) (hg : 1 ≤ g) : 0 < n / 128 ^ g ↔ g < (cb n).length := by
  unfold cb
  have := cbHi_len (g - 1) (n / 128)
  simp only [List.length_append, List.length_cons, List.length_nil, Nat.zero_add]
  rw [Nat.div_lt_iff_lt_mul (by decide), ← Nat.pow_succ, show (g - 1).succ = g by omega] at this
  have hp : 0 < 128 ^ g := Nat.pos_of_ne_zero (by simp)
  rw [Nat.div_pos_iff]
  omega
theorem cb_len_le (n : Nat) (h : n ≤ mxN) : (cb n).length ≤ 8 := by
  unfold cb
  have := (cbHi_len 7 (n / 128)).2 (by unfold mxN at h; have : (128 : Nat) ^ 7 = 562949953421312 := by decide
                                       omega)
  simp; omega
theorem cb_pos (n : Nat) : 1 ≤ (cb n).length := by unfold cb; simp
theorem cb_at (n i : Nat) (h : i < (cb n).length) :
    (cb n)[i]? = some (UInt8.ofNat (n / 128 ^ ((cb n).length - 1 - i) % 128 + if i + 1 < (cb n).length then 128 else 0)) := by
  have hl : (cb n).length = (cbHi (n / 128)).length + 1 := by simp [cb]
  rw [hl] at h ⊢
  unfold cb
  by_cases hi : i < (cbHi (n / 128)).length
  · rw [List.getElem?_append_left hi, cbHi_at _ _ _ (Nat.le_refl _) hi, if_pos (by omega)]
    have : (cbHi (n / 128)).length + 1 - 1 - i = ((cbHi (n / 128)).length - 1 - i) + 1 := by omega
    rw [this, Nat.pow_succ, Nat.mul_comm, ← Nat.div_div_eq_div_mul, Nat.add_comm]
  · obtain rfl : i = (cbHi (n / 128)).length := by omega
    simp

theorem shr_seven (k j : Nat) : (k : Int) / 2 ^ (7 * j) = ((k / 128 ^ j : Nat) : Int) := by
  have h3 : (2 : Int) ^ (7 * j) = ((128 ^ j : Nat) : Int) := by
    rw [show (128 : Nat) ^ j = 2 ^ (7 * j) from by rw [Nat.pow_mul]]
    simp
  rw [h3]; simp

theorem and_seven (k d : Nat) : bits .and .u8 ((k : Int) / 2 ^ (7 * d) % 256) 127 = ((k / 128 ^ d % 128 : Nat) : Int) := by
  rw [shr_seven]
  have := and_u8_127 (k / 128 ^ d % 256) (by omega)
  rw [show (((k / 128 ^ d : Nat) : Int) % 256) = ((k / 128 ^ d % 256 : Nat) : Int) from by omega, this]
  omega
theorem byte_hi (k d : Nat) : Value.int .u8 (bits .or .u8 (bits .and .u8 ((k : Int) / 2 ^ (7 * d) % 256) 127) 128) = bv (UInt8.ofNat (k / 128 ^ d % 128 + 128)) := by
  rw [and_seven, or_u8_128 _ (by omega)]
  unfold bv
  rw [UInt8.toNat_ofNat']
  congr 1
  omega
theorem byte_lo (k d : Nat) : Value.int .u8 (bits .and .u8 ((k : Int) / 2 ^ (7 * d) % 256) 127) = bv (UInt8.ofNat (k / 128 ^ d % 128 + 0)) := by
  rw [and_seven]
  unfold bv
  rw [UInt8.toNat_ofNat']
  congr 1
  omega

/-- the round's end, for whichever byte -/
theorem wc_step {p : Nat} {v v' : Value} {s : WS} {k i N : Nat} {w wr W w2 : World} {xs : List Value} {A2 : Option Addr} {c2 : Nat} {b : UInt8} (hD : isWr wr p v' ⟨s.b ++ (cb k).take i, 0⟩) (hb : (cb k)[i]? = some b)
    (hxs : (s.b ++ (cb k).take i).map bv = xs) (hkb : keepBut (p :: homes v) w wr) (hhm : ∀ x ∈ homes v', x ∈ homes v ∨ w.heap.size ≤ x) (hW : keepBut [] wr W)
    (hkb2 : keepBut (homes v') W w2) (hown2 : owns w2 5 1 (.slice A2 (N + 1) c2) (N + 1) (xs ++ [bv b])) (hloc2 : ∀ x ∈ homes (.slice A2 (N + 1) c2), x ∈ homes v' ∨ W.heap.size ≤ x) :
    isWr (w2.setCell ⟨p, 0, none⟩ (.slice A2 (N + 1) c2)) p (.slice A2 (N + 1) c2) ⟨s.b ++ (cb k).take (i + 1), 0⟩ ∧ keepBut (p :: homes v) w (w2.setCell ⟨p, 0, none⟩ (.slice A2 (N + 1) c2)) ∧
      ∀ x ∈ homes (.slice A2 (N + 1) c2), x ∈ homes v ∨ w.heap.size ≤ x := by
  have hst := wr_store hD hW hkb2 (l := [b]) (by rw [List.map_append, hxs]; exact hown2) hloc2
  have hbs : s.b ++ (cb k).take i ++ [b] = s.b ++ (cb k).take (i + 1) := by
    rw [List.take_add_one, hb, List.append_assoc]; rfl
  rw [hbs] at hst
  exact ⟨hst.1, hkb.then hst.2.1 (fun x hx => by rcases List.mem_cons.1 hx with rfl | hx; exact .inl (by simp); exact (hhm x hx).imp (fun h => by simp [h]) id), fun x hx => by rcases hst.2.2 x hx with h | h; exact hhm x h; have := hkb.size; exact .inr (by omega)⟩

/-- what holds at the head of each round of Count -/
def wcRel (p : Nat) (v : Value) (s : WS) (k : Nat) (w : World) (i : Value) (wr : World) : Prop :=
  ∃ (j : Nat) (v' : Value), i = .int .i64 j ∧ j ≤ (cb k).length ∧ isWr wr p v' ⟨s.b ++ (cb k).take j, 0⟩ ∧ keepBut (p :: homes v) w wr ∧ ∀ x ∈ homes v', x ∈ homes v ∨ w.heap.size ≤ x

set_option maxRecDepth 100000 in
set_option maxHeartbeats 1000000 in
theorem wcount_any (p : Nat) (v : Value) (s : WS) (n : Int) (w : World) (h : isWr w p v s) (hb : s.b.length ≤ 1000000000) :
    Calls Tryz.prog 43 #[.pointer (some ⟨p, 0, none⟩), .int .i64 n] w (wrPost p v (s.count n) w) := by
  have hc1 : w.cell? ⟨p, 1, none⟩ = some (.int .i64 s.e) := h.1.cell 1
  have hf1 := h.1.free 1
  by_cases he : s.e = 0
  · have he' : (s.e != 0) = false := by simp [he]
    have HE := Lib.hid he
    clear he
    by_cases hn : n < 0 ∨ (mxN : Int) < n
    · have hfin : s.count n = ⟨s.b, 9⟩ := by
        unfold WS.count
        rw [if_pos HE.out, if_pos hn]
      have hn' : n < 0 ∨ (9007199254740991 : Int) < n := by unfold mxN at hn; omega
      have HFin := Lib.hid hfin
      clear hfin hn
      rcases hn' with h0 | h0
      · go_enter Tryz.func43, Tryz.ntmps43
        go_wp2_with (first | (go_at_call 119; refine (closed_any p v s _ h).mono ?_; rintro e w' ⟨rfl, rfl⟩))
        go_ret
        exact ⟨rfl, v, by rw [HFin.out]; exact wr_fail h 9, (keepBut.refl _ _).setCell _ _ (.inl (by simp)), fun x hx => .inl hx⟩
      · have h1 : ¬ n < 0 := by omega
        go_enter Tryz.func43, Tryz.ntmps43
        go_wp2_with (first | (go_at_call 119; refine (closed_any p v s _ h).mono ?_; rintro e w' ⟨rfl, rfl⟩))
        go_ret
        exact ⟨rfl, v, by rw [HFin.out]; exact wr_fail h 9, (keepBut.refl _ _).setCell _ _ (.inl (by simp)), fun x hx => .inl hx⟩
    · obtain ⟨k, rfl⟩ : ∃ k : Nat, n = (k : Int) := ⟨n.toNat, by omega⟩
      have hk : k ≤ 9007199254740991 := by unfold mxN at hn; omega
      have hl8 := cb_len_le k hk
      have hl1 := cb_pos k
      have HM := Lib.hid (cb_more k)
      obtain ⟨G, hG⟩ : ∃ G, G = (cb k).length := ⟨_, rfl⟩
      rw [← hG] at hl8 hl1
      have HG := Lib.hid hG
      clear hG
      go_enter Tryz.func43, Tryz.ntmps43
      go_wp2_with (first | (go_at_call 119; refine (closed_any p v s _ h).mono ?_; rintro e w' ⟨rfl, rfl⟩))
      go_loop [5] (fun g => ∃ j : Nat, g = .int .i64 j ∧ 1 ≤ j ∧ j ≤ G) (fun g => G - (intOf g).toNat)
      case atStart => exact ⟨1, rfl, by omega, by omega⟩
      case round =>
        obtain ⟨j, rfl, hj1, hj2⟩ := hrel
        by_cases hjG : j < G
        · have hpos : (0 : Int) < (k : Int) / 2 ^ (7 * j) := by
            rw [shr_seven]; have := (HM.out j hj1).2 (by rw [← HG.out]; exact hjG); omega
          go_wp2
          go_round
          case rel => exact ⟨j + 1, by go_num, by omega, by omega⟩
          case measure => simp [intOf]; omega
        · obtain rfl : j = G := by omega
          have hpos : (k : Int) / 2 ^ (7 * j) ≤ 0 := by
            rw [shr_seven]; have := mt (HM.out j hj1).1 (by rw [← HG.out]; exact hjG); omega
          go_wp2
          obtain ⟨i0, hi0, hz0, hz1, hz2⟩ := info_parts infoU8w
          go_loopw [29] (fun i wr => wcRel p v s k w i wr) (fun i _ => j - (intOf i).toNat)
          case atStart => exact ⟨0, v, rfl, by omega, by have := HE.out; simp only [List.take_zero, List.append_nil, ← this]; exact h, keepBut.refl _ _, fun x hx => .inl hx⟩
          case round =>
            obtain ⟨i, v', rfl, hi, hwr, hkb, hhm⟩ := hrel
            rw [← HG.out] at hi
            have hcell0 : wr.cell? ⟨p, 0, none⟩ = some v' := hwr.1.cell 0
            have hfree0 := hwr.1.free 0
            have hown := hwr.2
            have hN : (s.b ++ (cb k).take i).length ≤ 1000000008 := by
              have := List.length_take_le i (cb k)
              rw [List.length_append]; omega
            generalize hxs : (s.b ++ (cb k).take i).map bv = xs at hown
            generalize hnn : (s.b ++ (cb k).take i).length = N at hown hN
            have HXS := Lib.hid (And.intro hxs hnn)
            clear hxs hnn
            have HO := Lib.hid hown
            clear hown
            have HD := Lib.hid hwr
            clear hwr
            by_cases hlt : i < j
            · have hplt := HD.out.1.lt
              by_cases hlast : i + 1 < j
              · go_wp2_with (at_builtin; refine wp_append _ rfl (.tmp 51) (.tmp 53) 24 rfl 5 i0 (.int .u8 0) 1 1 Tryz.underlying24 hi0 hz0 hz1 hz2 rfl (by decide) v' N xs (by simp [Act.eval]) (by first | exact (HO.out.alloc _) | exact HO.out.drew.alloc _ | exact (HO.out.alloc _).drew) _ _ 1 1 _ (by simp [Act.eval]) (reads_one _ _ _) (by intro u hu; simp at hu; subst hu; rfl) (by omega) (by unfold maxLen; omega) ?_; intro A2 c2 w2 hown2 hkb2 hloc2; have hW2 := hkb2.row (by first | exact ((keepBut.refl [] wr).drew.alloc _).row HD.out.1 (by simp) | exact ((keepBut.refl [] wr).alloc _).row HD.out.1 (by simp)) HD.out.apart; have hcell2 : w2.cell? ⟨p, 0, none⟩ = some v' := hW2.cell 0; have hfree2 := hW2.free 0)
                have hat := cb_at k i (by rw [← HG.out]; exact hlt)
                rw [← HG.out, if_pos hlast] at hat
                rw [byte_hi] at hown2
                have R := Lib.hid (wc_step HD.out hat HXS.out.1 hkb hhm ((keepBut.refl [] wr).alloc _) hkb2 hown2 hloc2)
                go_roundw
                case rel => exact ⟨i + 1, _, by go_num, by rw [← HG.out]; omega, R.out.1, R.out.2.1, R.out.2.2⟩
                case measure => simp [intOf]; omega
              · go_wp2_with (at_builtin; refine wp_append _ rfl (.tmp 51) (.tmp 53) 24 rfl 5 i0 (.int .u8 0) 1 1 Tryz.underlying24 hi0 hz0 hz1 hz2 rfl (by decide) v' N xs (by simp [Act.eval]) (by first | exact (HO.out.alloc _) | exact HO.out.drew.alloc _ | exact (HO.out.alloc _).drew) _ _ 1 1 _ (by simp [Act.eval]) (reads_one _ _ _) (by intro u hu; simp at hu; subst hu; rfl) (by omega) (by unfold maxLen; omega) ?_; intro A2 c2 w2 hown2 hkb2 hloc2; have hW2 := hkb2.row (by first | exact ((keepBut.refl [] wr).drew.alloc _).row HD.out.1 (by simp) | exact ((keepBut.refl [] wr).alloc _).row HD.out.1 (by simp)) HD.out.apart; have hcell2 : w2.cell? ⟨p, 0, none⟩ = some v' := hW2.cell 0; have hfree2 := hW2.free 0)
                have hat := cb_at k i (by rw [← HG.out]; exact hlt)
                rw [← HG.out, if_neg hlast] at hat
                rw [byte_lo] at hown2
                have R := Lib.hid (wc_step HD.out hat HXS.out.1 hkb hhm ((keepBut.refl [] wr).alloc _) hkb2 hown2 hloc2)
                go_roundw
                case rel => exact ⟨i + 1, _, by go_num, by rw [← HG.out]; omega, R.out.1, R.out.2.1, R.out.2.2⟩
                case measure => simp [intOf]; omega
            · obtain rfl : i = j := by omega
              have hfin : s.count (k : Int) = ⟨s.b ++ cb k, 0⟩ := by
                unfold WS.count
                rw [if_pos HE.out, if_neg hn]; rfl
              have hall : (cb k).take i = cb k := List.take_of_length_le (by rw [← HG.out]; exact Nat.le_refl _)
              rw [hall] at HD
              have HFin := Lib.hid hfin
              clear hfin hall
              go_wp2
              go_ret
              exact ⟨rfl, v', by rw [HFin.out]; exact HD.out, hkb, hhm⟩
  · have hfin : s.count n = s := by
      unfold WS.count
      rw [if_neg he]
    have he' : (s.e != 0) = true := by simp [he]
    have HFin := Lib.hid hfin
    clear hfin he
    go_enter Tryz.func43, Tryz.ntmps43
    go_wp2_with (first | (go_at_call 119; refine (closed_any p v s _ h).mono ?_; rintro e w' ⟨rfl, rfl⟩))
    go_ret
    exact ⟨rfl, v, by rw [HFin.out]; exact h, keepBut.refl _ _, fun x hx => .inl hx⟩

set_option maxHeartbeats 1000000 in
theorem wraw_any (p : Nat) (v : Value) (s : WS) (A : Option Addr) (g c : Nat) (l : List UInt8) (w : World) (h : isWr w p v s) (hs : seen w A g l) (hb : s.b.length + l.length ≤ 140737488355328) :
    Calls Tryz.prog 79 #[.pointer (some ⟨p, 0, none⟩), .slice A l.length c] w (wrPost p v (s.raw l) w) := by
  have hc0 : w.cell? ⟨p, 0, none⟩ = some v := h.1.cell 0
  have hf0 := h.1.free 0
  by_cases he : s.e = 0
  · have he' : (s.e != 0) = false := by simp [he]
    have HE := Lib.hid he
    obtain ⟨sb, se⟩ := s
    simp only at he
    subst he
    have hfin : WS.raw ⟨sb, 0⟩ l = ⟨sb ++ l, 0⟩ := by simp [WS.raw]
    have HFin := Lib.hid hfin
    clear hfin
    obtain ⟨i0, hi0, hz0, hz1, hz2⟩ := info_parts infoU8w
    have HD := Lib.hid h
    have hplt := h.1.lt
    have HO := Lib.hid (show owns w 5 1 v sb.length (sb.map bv) from h.2)
    have hb' : sb.length + l.length ≤ 140737488355328 := hb
    have HS := Lib.hid hs.reads
    go_enter Tryz.func79, Tryz.ntmps79
    go_wp2_with (first | (go_at_call 119; refine (closed_any p v _ _ h).mono ?_; rintro e w' ⟨rfl, rfl⟩) | (at_builtin; refine wp_append _ rfl (.tmp 12) (.tmp 13) 24 rfl 5 i0 (.int .u8 0) 1 1 Tryz.underlying24 hi0 hz0 hz1 hz2 rfl (by decide) v sb.length _ (by simp [Act.eval]) HO.out A g l.length c _ (by simp [Act.eval]) HS.out (by intro u hu; simp at hu; obtain ⟨b, _, rfl⟩ := hu; rfl) (by omega) (by unfold maxLen; omega) ?_; intro A2 c2 w2 hown2 hkb2 hloc2; have hW2 := hkb2.row HD.out.1 HD.out.apart; have hcell2 : w2.cell? ⟨p, 0, none⟩ = some v := hW2.cell 0; have hfree2 := hW2.free 0))
    go_ret
    have hst := wr_store HD.out (keepBut.refl [] w) hkb2 (l := l) (by rw [List.map_append]; exact hown2) hloc2
    exact ⟨rfl, _, by rw [HFin.out]; exact hst.1, hst.2.1, hst.2.2⟩
  · have hfin : s.raw l = s := by
      unfold WS.raw
      rw [if_neg he]
    have he' : (s.e != 0) = true := by simp [he]
    have HFin := Lib.hid hfin
    clear hfin he
    go_enter Tryz.func79, Tryz.ntmps79
    go_wp2_with (first | (go_at_call 119; refine (closed_any p v s _ h).mono ?_; rintro e w' ⟨rfl, rfl⟩))
    go_ret
    exact ⟨rfl, v, by rw [HFin.out]; exact h, keepBut.refl _ _, fun x hx => .inl hx⟩

theorem count_b_le (s : WS) (n : Int) : (s.count n).b.length ≤ s.b.length + 8 := by
  unfold WS.count
  split
  · split
    · simp
    · rename_i h1 h2
      have := cb_len_le n.toNat (by omega)
      simp only [List.length_append]; omega
  · omega

set_option maxHeartbeats 1000000 in
theorem wtext_any (p : Nat) (v : Value) (s : WS) (A : Option Addr) (g c : Nat) (l : List UInt8) (w : World) (h : isWr w p v s) (hs : seen w A g l) (hg : l ≠ [] → g ≠ p ∧ g ∉ homes v) (hb : s.b.length ≤ 1000000000) (hb2 : l.length ≤ 1000000000) :
    Calls Tryz.prog 49 #[.pointer (some ⟨p, 0, none⟩), .slice A l.length c] w (wrPost p v (s.text l) w) := by
  have hcb := count_b_le s (l.length : Int)
  go_enter Tryz.func49, Tryz.ntmps49
  go_wp2_with (first | (go_at_call 43; refine (wcount_any p v s _ _ h hb).mono ?_; rintro e w1 ⟨rfl, v1, hw1, hk1, hl1⟩) | (go_at_call 79; refine (wraw_any p _ _ A g c l _ (by assumption) (hs.keep (by assumption) (fun hl hm => by rcases List.mem_cons.1 hm with h1 | h1; exact (hg hl).1 h1; exact (hg hl).2 h1)) (by omega)).mono ?_; rintro e w2 ⟨rfl, v2, hw2, hk2, hl2⟩))
  go_ret
  exact ⟨rfl, v2, hw2, hk1.then hk2 (fun x hx => by rcases List.mem_cons.1 hx with rfl | hx; exact .inl (by simp); exact (hl1 x hx).imp (fun h => by simp [h]) id), fun x hx => by rcases hl2 x hx with h | h; exact hl1 x h; have := hk1.size; exact .inr (by omega)⟩

/-- what Bytes leaves: a copy of its own -/
def bytesPost (s : WS) (w : World) (e : Ending) (w' : World) : Prop :=
  ∃ v, e = .returned (.tuple #[v, .int .i64 s.e]) ∧ owns w' 5 1 v s.bytes.length (s.bytes.map bv) ∧ (∀ x ∈ homes v, w.heap.size ≤ x) ∧ keepBut [] w w'

set_option maxHeartbeats 1000000 in
theorem wbytes_any (p : Nat) (v : Value) (s : WS) (w : World) (h : isWr w p v s) (hb : s.b.length ≤ 140737488355328) :
    Calls Tryz.prog 50 #[.pointer (some ⟨p, 0, none⟩)] w (bytesPost s w) := by
  have hc1 : w.cell? ⟨p, 1, none⟩ = some (.int .i64 s.e) := h.1.cell 1
  have hc0 : w.cell? ⟨p, 0, none⟩ = some v := h.1.cell 0
  by_cases he : s.e = 0
  · have he' : (s.e != 0) = false := by simp [he]
    have hfin : s.bytes = s.b := by simp [WS.bytes, he]
    have HFin := Lib.hid hfin
    have HE := Lib.hid he
    clear hfin he
    obtain ⟨i0, hi0, hz0, hz1, hz2⟩ := info_parts infoU8w
    obtain ⟨A, c, rfl, _, _, _, hrd⟩ := h.2.form
    obtain ⟨g, hg⟩ : ∃ g, homes (.slice A s.b.length c) = [] ∨ homes (.slice A s.b.length c) = [g] := by
      unfold homes
      cases Value.ownBlock (.slice A s.b.length c) with
      | none => exact ⟨0, .inl rfl⟩
      | some g => exact ⟨g, .inr rfl⟩
    have HS := Lib.hid (hrd g hg)
    clear hrd hg
    go_enter Tryz.func50, Tryz.ntmps50
    go_wp2_with (at_builtin; refine wp_append _ rfl _ (.tmp 18) 24 rfl 5 i0 (.int .u8 0) 1 1 Tryz.underlying24 hi0 hz0 hz1 hz2 rfl (by decide) (.slice none 0 0) 0 [] rfl (owns.nil _ _ _) A g s.b.length c _ (by simp [Act.eval]) HS.out (by intro u hu; simp at hu; obtain ⟨b, _, rfl⟩ := hu; rfl) (by omega) (by unfold maxLen; omega) ?_; intro A2 c2 w2 hown2 hkb2 hloc2)
    go_ret2
    refine ⟨_, by rw [HE.out]; rfl, ?_, fun x hx => ?_, hkb2⟩
    · rw [HFin.out]; simpa using hown2
    · rcases hloc2 x (by simpa using hx) with h1 | h1
      · simp [homes_none] at h1
      · exact h1
  · have he' : (s.e != 0) = true := by simp [he]
    have hfin : s.bytes = [] := by simp [WS.bytes, he]
    have HFin := Lib.hid hfin
    clear hfin he
    go_enter Tryz.func50, Tryz.ntmps50
    go_wp2
    go_region
    all_goals
      try go_wp2
      go_ret2
      exact ⟨.slice none 0 0, rfl, by rw [HFin.out]; exact owns.nil _ _ _, by simp [homes_none], (keepBut.refl _ _).drew⟩

set_option maxHeartbeats 400000 in
theorem write_any (w : World) :
    Calls Tryz.prog 41 #[] w fun e w' => ∃ p, e = .returned (.pointer (some ⟨p, 0, none⟩)) ∧ isWr w' p (.slice none 0 0) ⟨[], 0⟩ ∧ w.heap.size ≤ p ∧ keepBut [] w w' := by
  go_enter Tryz.func41, Tryz.ntmps41
  go_wp2
  go_ret
  exact ⟨w.heap.size, rfl, ⟨rowAt.new _ _ _, owns.nil _ _ _⟩, Nat.le_refl _, (keepBut.refl _ _).alloc _⟩
end Go.Proofs.YthfdkonhjpdflaaGreatDoor
end
