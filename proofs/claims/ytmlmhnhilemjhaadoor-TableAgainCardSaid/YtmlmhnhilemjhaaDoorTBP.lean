/-
  TBP: NumBackP, TB53, TB54, joined.
-/
import Derived.Test.YtmlmhnhilemjhaaDoorLow4
import Derived.Test.YtmlmhnhilemjhaaDoorLow2
import Derived.Test.YtmlmhnhilemjhaaDoorTBA
section
namespace Go.Proofs.YtmlmhnhilemjhaaDoor
open Go.RowKit
set_option linter.unusedVariables false

theorem beBytes_succ (m n : Nat) : beBytes (m + 1) n = beBytes m (n / 256) ++ [UInt8.ofNat (n % 256)] := by
  unfold beBytes
  rw [List.range_succ, List.map_append]
  congr 1
  · apply List.map_congr_left
    intro i hi
    have hi := List.mem_range.1 hi
    have : m + 1 - 1 - i = (m - 1 - i) + 1 := by omega
    rw [this, Nat.pow_succ, Nat.mul_comm, ← Nat.div_div_eq_div_mul]
  · simp
theorem be_append (l : List UInt8) (b : UInt8) : be (l ++ [b]) = be l * 256 + b.toNat := by simp [be, List.foldl_append]
theorem be_beBytes : ∀ (m n : Nat), n < 256 ^ m → be (beBytes m n) = n := by
  intro m
  induction m with
  | zero => intro n h; simp [beBytes, be]; omega
  | succ m ih =>
    intro n h
    rw [beBytes_succ, be_append, ih (n / 256) (by rw [Nat.pow_succ] at h; omega), UInt8.toNat_ofNat']
    omega
theorem num_back (k a : Nat) (rest : List UInt8) (hk : isW (k : Int) = true) (ha : a < 256 ^ k) (hm : a ≤ mxN) :
    (RS.mk (beBytes k a ++ rest) 0).num (k : Int) = ((a : Int), ⟨rest, 0⟩) := by
  have hl := beBytes_length k a
  have ht : (RS.mk (beBytes k a ++ rest) 0).take k = beBytes k a := by
    unfold RS.take
    rw [if_pos ⟨rfl, by simp [hl]⟩]
    simp only
    rw [List.take_left' hl]
  have hp : (RS.mk (beBytes k a ++ rest) 0).past k = ⟨rest, 0⟩ := by
    unfold RS.past
    rw [if_pos rfl, if_pos (by simp [hl])]
    simp only
    rw [List.drop_left' hl]
  have hq : (RS.mk (beBytes k a ++ rest) 0).took k = true := by simp [RS.took, hl]
  unfold RS.num
  rw [if_pos hk, Int.toNat_natCast, if_pos hq, ht, hp, be_beBytes k a ha, if_neg (by omega)]
theorem cbHi_nil (m : Nat) : (cbHi m).length = 0 ↔ m = 0 := by
  have := cbHi_len 0 m
  simp at this
  rw [List.length_eq_zero_iff, this]
theorem cnt_high (most : Int) : ∀ (k m : Nat) (q : List UInt8), m ≤ k → (cbHi m).length ≤ 7 → cnt most (cbHi m ++ q) 0 0 = cnt most q (cbHi m).length m := by
  intro k
  induction k with
  | zero =>
    intro m q h1 h2
    obtain rfl : m = 0 := by omega
    simp [cbHi_zero]
  | succ k ih =>
    intro m q h1 h2
    rcases Nat.eq_zero_or_pos m with rfl | hm
    · simp [cbHi_zero]
    · have hb : (UInt8.ofNat (128 + m % 128)).toNat = 128 + m % 128 := by rw [UInt8.toNat_ofNat']; omega
      have hz := cbHi_nil (m / 128)
      rw [cbHi_pos m hm] at h2 ⊢
      simp only [List.length_append, List.length_cons, List.length_nil, Nat.zero_add] at h2 ⊢
      rw [List.append_assoc, ih (m / 128) _ (by omega) (by omega), List.singleton_append,
        cnt_on most q _ _ _ (by rw [hb]; intro h; omega) (by rw [hb]; omega) (by omega), hb]
      congr 1
      omega
theorem count_back (n : Nat) (most : Int) (rest : List UInt8) (hn : n ≤ mxN) (hm : (n : Int) ≤ most) : (RS.mk (cb n ++ rest) 0).count most = ((n : Int), ⟨rest, 0⟩) := by
  have hl := cb_len_le n hn
  have hl2 : (cb n).length = (cbHi (n / 128)).length + 1 := by simp [cb]
  have hb : (UInt8.ofNat (n % 128)).toNat = n % 128 := by rw [UInt8.toNat_ofNat']; omega
  unfold RS.count cb
  rw [if_pos rfl]
  simp only
  rw [List.append_assoc, cnt_high most (n / 128) (n / 128) _ (Nat.le_refl _) (by omega), List.singleton_append, cnt_last most rest _ _ _ (by rw [hb]; omega), hb]
  have : n / 128 * 128 + n % 128 % 128 = n := by omega
  rw [this]
  unfold bounded
  rw [if_neg (by omega), if_neg (by omega)]
theorem raw_back (t rest : List UInt8) : (RS.mk (t ++ rest) 0).raw (t.length : Int) = (t, ⟨rest, 0⟩) := by
  unfold RS.raw
  rw [if_neg (by omega), Int.toNat_natCast]
  simp [RS.take, RS.past]
theorem text_back (t rest : List UInt8) (most : Int) (h1 : t.length ≤ mxN) (h2 : (t.length : Int) ≤ most) : (RS.mk (cb t.length ++ t ++ rest) 0).text most = (t, ⟨rest, 0⟩) := by
  unfold RS.text
  rw [List.append_assoc, count_back t.length most _ h1 h2]
  exact raw_back t rest

end Go.Proofs.YtmlmhnhilemjhaaDoor
end

section
namespace Go.Proofs.YtmlmhnhilemjhaaDoor
open Go.RowKit
set_option linter.unusedVariables false
set_option maxRecDepth 100000
set_option linter.unusedSimpArgs false

/-! what is read, is what would be written -/
theorem cnt_inv (most : Int) : ∀ (l : List UInt8) (s n : Nat), s = (cbHi n).length → (cnt most l s n).2.e = 0 → ∃ v : Nat, (cnt most l s n).1 = (v : Int) ∧ cbHi n ++ l = cb v ++ (cnt most l s n).2.l := by
  intro l
  induction l with
  | nil => intro s n hs he; rw [cnt_nil] at he; exact absurd he (by decide)
  | cons b t ih =>
    intro s n hs he
    have hb := b.toNat_lt
    have hz := cbHi_nil n
    unfold cnt at he ⊢
    by_cases c1 : s = 0 ∧ b.toNat = 128
    · rw [if_pos c1] at he; exact absurd he (by decide)
    · rw [if_neg c1] at he ⊢
      by_cases c2 : b.toNat < 128
      · rw [if_pos c2] at he ⊢
        by_cases c3 : mxN < n * 128 + b.toNat % 128
        · rw [if_pos c3] at he; exact absurd he (by decide)
        · rw [if_neg c3] at he ⊢
          by_cases c4 : most < ((n * 128 + b.toNat % 128 : Nat) : Int)
          · rw [if_pos c4] at he; exact absurd he (by decide)
          · rw [if_neg c4]
            refine ⟨n * 128 + b.toNat % 128, rfl, ?_⟩
            show cbHi n ++ b :: t = cb _ ++ t
            unfold cb
            rw [show (n * 128 + b.toNat % 128) / 128 = n by omega, show (n * 128 + b.toNat % 128) % 128 = b.toNat by omega]
            simp
      · rw [if_neg c2] at he ⊢
        by_cases c5 : s = 7
        · rw [if_pos c5] at he; exact absurd he (by decide)
        · rw [if_neg c5] at he ⊢
          have hpos : 0 < n * 128 + b.toNat % 128 := by omega
          have hc : cbHi (n * 128 + b.toNat % 128) = cbHi n ++ [b] := by
            rw [cbHi_pos _ hpos, show (n * 128 + b.toNat % 128) / 128 = n by omega, show 128 + (n * 128 + b.toNat % 128) % 128 = b.toNat by omega]
            simp
          obtain ⟨v, h1, h2⟩ := ih (s + 1) (n * 128 + b.toNat % 128) (by rw [hc]; simp [hs]) he
          refine ⟨v, h1, ?_⟩
          rw [← h2, hc]
          simp
theorem count_inv (r : RS) (he : r.e = 0) (most : Int) (h : (r.count most).2.e = 0) : ∃ v : Nat, (r.count most).1 = (v : Int) ∧ r.l = cb v ++ (r.count most).2.l := by
  unfold RS.count at h ⊢
  rw [if_pos he] at h ⊢
  obtain ⟨v, h1, h2⟩ := cnt_inv most r.l 0 0 (by rw [cbHi_zero]; rfl) h
  rw [cbHi_zero] at h2
  exact ⟨v, h1, h2⟩
theorem num1_inv (r : RS) (he : r.e = 0) (h : (r.num 1).2.e = 0) : ∃ v : Nat, v < 256 ∧ (r.num 1).1 = (v : Int) ∧ r.l = beBytes 1 v ++ (r.num 1).2.l := by
  obtain ⟨l, e⟩ := r
  simp only at he
  subst he
  cases l with
  | nil => exact absurd h (by decide)
  | cons b t =>
    have hb := b.toNat_lt
    have hn : (RS.mk (b :: t) 0).num 1 = ((b.toNat : Int), ⟨t, 0⟩) := by
      have e1 : beBytes 1 b.toNat = [b] := by
        show [UInt8.ofNat (b.toNat / 256 ^ 0 % 256)] = [b]
        rw [show b.toNat / 256 ^ 0 % 256 = b.toNat by omega]
        simp
      have := num_back 1 b.toNat t rfl (by omega) (by unfold mxN; omega)
      rw [e1] at this
      exact this
    rw [hn]
    refine ⟨b.toNat, by omega, rfl, ?_⟩
    show b :: t = [UInt8.ofNat (b.toNat / 256 ^ 0 % 256)] ++ t
    rw [show b.toNat / 256 ^ 0 % 256 = b.toNat by omega]
    simp
theorem raw_inv (r : RS) (he : r.e = 0) (n : Nat) (h : (r.raw (n : Int)).2.e = 0) : (r.raw (n : Int)).1.length = n ∧ r.l = (r.raw (n : Int)).1 ++ (r.raw (n : Int)).2.l := by
  obtain ⟨l, e⟩ := r
  simp only at he
  subst he
  unfold RS.raw at h ⊢
  rw [if_neg (by omega)] at h ⊢
  simp only [Int.toNat_natCast] at h ⊢
  unfold RS.past at h ⊢
  unfold RS.take
  simp only [if_pos] at h ⊢
  by_cases c : n ≤ l.length
  · simp only [c, if_pos, and_self] at h ⊢
    exact ⟨by rw [List.length_take]; omega, (List.take_append_drop n l).symm⟩
  · simp only [c, if_false] at h
    exact absurd h (by decide)
theorem count_stick (r : RS) (he : r.e ≠ 0) (m : Int) : (r.count m).2.e ≠ 0 := by unfold RS.count; rw [if_neg he]; exact he
theorem past_stick (r : RS) (he : r.e ≠ 0) (n : Nat) : (r.past n).e ≠ 0 := by unfold RS.past; rw [if_neg he]; exact he
theorem fail_stick (r : RS) (he : r.e ≠ 0) (x : Int) : (r.fail x).e ≠ 0 := by unfold RS.fail; rw [if_neg he]; exact he
theorem num_stick (r : RS) (he : r.e ≠ 0) (n : Int) : (r.num n).2.e ≠ 0 := by
  unfold RS.num
  split
  · split
    · split
      · exact fail_stick _ (past_stick r he _) _
      · exact past_stick r he _
    · exact past_stick r he _
  · exact fail_stick r he _
theorem raw_stick (r : RS) (he : r.e ≠ 0) (n : Int) : (r.raw n).2.e ≠ 0 := by
  unfold RS.raw
  split
  · exact fail_stick r he _
  · exact past_stick r he _
theorem text_inv (r : RS) (he : r.e = 0) (m : Int) (h : (r.text m).2.e = 0) : r.l = cb (r.text m).1.length ++ ((r.text m).1 ++ (r.text m).2.l) := by
  unfold RS.text at h ⊢
  have hc : (r.count m).2.e = 0 := by
    by_cases c : (r.count m).2.e = 0
    · exact c
    · exact absurd h (raw_stick _ c _)
  obtain ⟨v, h1, h2⟩ := count_inv r he m hc
  rw [h1] at h ⊢
  obtain ⟨h3, h4⟩ := raw_inv _ hc v h
  rw [h3, ← h4]
  exact h2
theorem text_stick (r : RS) (he : r.e ≠ 0) (m : Int) : (r.text m).2.e ≠ 0 := raw_stick _ (count_stick r he m) _
theorem num_e {r : RS} {n : Int} (h : (r.num n).2.e = 0) : r.e = 0 := Classical.byContradiction fun c => num_stick r c n h
theorem count_e {r : RS} {n : Int} (h : (r.count n).2.e = 0) : r.e = 0 := Classical.byContradiction fun c => count_stick r c n h
theorem raw_e {r : RS} {n : Int} (h : (r.raw n).2.e = 0) : r.e = 0 := Classical.byContradiction fun c => raw_stick r c n h
theorem text_e {r : RS} {n : Int} (h : (r.text n).2.e = 0) : r.e = 0 := Classical.byContradiction fun c => text_stick r c n h
theorem num1_is {r : RS} (h : (r.num 1).2.e = 0) : r.l = beBytes 1 (r.num 1).1.toNat ++ (r.num 1).2.l := by
  obtain ⟨v, _, h1, h2⟩ := num1_inv r (num_e h) h
  rw [h1, Int.toNat_natCast]; exact h2
theorem count_is {r : RS} {m : Int} (h : (r.count m).2.e = 0) : r.l = cb (r.count m).1.toNat ++ (r.count m).2.l := by
  obtain ⟨v, h1, h2⟩ := count_inv r (count_e h) m h
  rw [h1, Int.toNat_natCast]; exact h2
theorem raw32_is {r : RS} (h : (r.raw 32).2.e = 0) : (r.raw 32).1.length = 32 ∧ r.l = (r.raw 32).1 ++ (r.raw 32).2.l := raw_inv r (raw_e h) 32 h
/-! a table that is read -/
def mxI2 : Int := 9007199254740991
def rdO (r : RS) : OP × RS :=
  (⟨nmOf (r.raw 32).1, ((r.raw 32).2.count mxI2).1, (((r.raw 32).2.count mxI2).2.text 285).1⟩, (((r.raw 32).2.count mxI2).2.text 285).2)
def badO (P : PT) (b : OP) : Bool := (P.next b.name).isSome || (P.hit b.name || ((b.version == 0) || !sizedP (b.env.length : Int)))
def rdOs : Nat → RS × PT × Bool → RS × PT × Bool
  | 0, x => x
  | k + 1, x => let y := rdOs k x; ((rdO y.1).2, y.2.1.put (rdO y.1).1, y.2.2 && !badO y.2.1 (rdO y.1).1)
theorem rdO_inv {r : RS} (h : (rdO r).2.e = 0) : r.e = 0 ∧ (rdO r).1.name.length = 32 ∧ r.l = obB (rdO r).1 ++ (rdO r).2.l := by
  unfold rdO at h ⊢
  have h3 := text_e h
  have h2 := count_e h3
  have h1 := raw_e h2
  have e1 := raw32_is h2
  have e2 := count_is h3
  have e3 := text_inv _ h3 285 h
  refine ⟨h1, by show (nmOf _).length = 32; rw [nmOf_all e1.1]; exact e1.1, ?_⟩
  show r.l = (((nmOf (r.raw 32).1 ++ cb _) ++ cb _) ++ _) ++ _
  rw [nmOf_all e1.1]
  rw [e1.2]
  conv => lhs; rw [e2, e3]
  simp only [List.append_assoc]
theorem PT.put_end {P : PT} {b : OP} (hx : P.next b.name = none) (hh : P.hit b.name = false) : (P.put b).objs = P.objs ++ [b] := by
  have hle : P.pos b.name ≤ P.objs.length := by
    have := posOf_le (fun n => Lib.compareBytes n b.name) P.names
    unfold PT.names at this
    rw [List.length_map] at this
    exact this
  have hge : P.objs.length ≤ P.pos b.name := by
    unfold PT.next at hx
    rw [if_neg (by rw [hh]; simp), Nat.add_zero] at hx
    have := List.getElem?_eq_none_iff.1 hx
    unfold PT.names at this
    rw [List.length_map] at this
    exact this
  unfold PT.put
  dsimp only
  rw [if_neg (by rw [hh]; simp)]
  unfold insAt
  rw [List.take_of_length_le hge, List.drop_eq_nil_of_le hge]
theorem objsB_app : ∀ (a b : List OP), objsB (a ++ b) = objsB a ++ objsB b
  | [], b => rfl
  | x :: a, b => by rw [List.cons_append, objsB, objsB, objsB_app a b, List.append_assoc]
theorem rdOs_inv : ∀ (k : Nat) (r : RS) (P : PT), (rdOs k (r, P, true)).1.e = 0 → (rdOs k (r, P, true)).2.2 = true →
    r.e = 0 ∧ (∃ l, (rdOs k (r, P, true)).2.1.objs = P.objs ++ l ∧ l.length = k ∧ r.l = objsB l ++ (rdOs k (r, P, true)).1.l) ∧ (rdOs k (r, P, true)).2.1.epoch = P.epoch ∧ (rdOs k (r, P, true)).2.1.answers = P.answers
  | 0, r, P, h, _ => ⟨h, ⟨[], by simp [rdOs, objsB]⟩, rfl, rfl⟩
  | k + 1, r, P, h, hf => by
    have hs : rdOs (k + 1) (r, P, true) = ((rdO (rdOs k (r, P, true)).1).2, (rdOs k (r, P, true)).2.1.put (rdO (rdOs k (r, P, true)).1).1, (rdOs k (r, P, true)).2.2 && !badO (rdOs k (r, P, true)).2.1 (rdO (rdOs k (r, P, true)).1).1) := rfl
    rw [hs] at h hf ⊢
    dsimp only at h hf ⊢
    obtain ⟨y, hy⟩ : ∃ y, rdOs k (r, P, true) = y := ⟨_, rfl⟩
    rw [hy] at h hf ⊢
    have hf1 := (Bool.and_eq_true_iff.1 hf).1
    have hf2 : badO y.2.1 (rdO y.1).1 = false := by have := (Bool.and_eq_true_iff.1 hf).2; simpa using this
    have hi := rdO_inv h
    obtain ⟨h0, ⟨l, hl1, hl2, hl3⟩, he, ha⟩ := rdOs_inv k r P (by rw [hy]; exact hi.1) (by rw [hy]; exact hf1)
    rw [hy] at hl1 hl3 he ha
    unfold badO at hf2
    have hb1 := (Bool.or_eq_false_iff.1 hf2).1
    have hb2 := (Bool.or_eq_false_iff.1 (Bool.or_eq_false_iff.1 hf2).2).1
    have hpe := PT.put_end (Option.isSome_eq_false_iff.1 hb1 |> Option.isNone_iff_eq_none.1) hb2
    refine ⟨h0, ⟨l ++ [(rdO y.1).1], by rw [hpe, hl1, List.append_assoc], by simp [hl2], ?_⟩, he, ha⟩
    rw [hl3, hi.2.2, objsB_app]
    simp [objsB]
def rdA (r : RS) : AN × RS :=
  let c := r.num 1; let n := c.2.count mxI2; let o := n.2.num 1; let v := o.2.count mxI2; let e := v.2.num 1; let m := e.2.raw 32; let t := m.2.text 285
  (⟨c.1, n.1, o.1, v.1, e.1, nmOf m.1, t.1⟩, t.2)
def PT.nextA (P : PT) (c : Int) : Option Int := P.keys[P.posA c + (if P.hitA c = true then 1 else 0)]?
def badA (P : PT) (a : AN) : Bool := (P.nextA a.client).isSome || (P.hitA a.client || (!inP a.client 0 2 || ((a.num == 0) || (decide (2 < a.code) || (decide (0 < (a.env.length : Int)) && !sizedP (a.env.length : Int))))))
def rdAs : Nat → RS × PT × Bool → RS × PT × Bool
  | 0, x => x
  | k + 1, x => let y := rdAs k x; ((rdA y.1).2, y.2.1.putA (rdA y.1).1, y.2.2 && !badA y.2.1 (rdA y.1).1)
theorem rdA_inv {r : RS} (h : (rdA r).2.e = 0) : r.e = 0 ∧ (rdA r).1.name.length = 32 ∧ r.l = anB (rdA r).1 ++ (rdA r).2.l := by
  unfold rdA at h ⊢
  dsimp only at h ⊢
  have h7 := text_e h
  have h6 := raw_e h7
  have h5 := num_e h6
  have h4 := count_e h5
  have h3 := num_e h4
  have h2 := count_e h3
  have h1 := num_e h2
  have e1 := num1_is h2
  have e2 := count_is h3
  have e3 := num1_is h4
  have e4 := count_is h5
  have e5 := num1_is h6
  have e6 := raw32_is h7
  have e7 := text_inv _ h7 285 h
  refine ⟨h1, by show (nmOf _).length = 32; rw [nmOf_all e6.1]; exact e6.1, ?_⟩
  unfold anB
  dsimp only
  rw [nmOf_all e6.1]
  conv => lhs; rw [e1, e2, e3, e4, e5, e6.2, e7]
  simp only [List.append_assoc]
theorem PT.putA_end {P : PT} {b : AN} (hx : P.nextA b.client = none) (hh : P.hitA b.client = false) : (P.putA b).answers = P.answers ++ [b] := by
  have hle : P.posA b.client ≤ P.answers.length := by
    have := posOf_le (fun n => n - b.client) P.keys
    unfold PT.keys at this
    rw [List.length_map] at this
    exact this
  have hge : P.answers.length ≤ P.posA b.client := by
    unfold PT.nextA at hx
    rw [if_neg (by rw [hh]; simp), Nat.add_zero] at hx
    have := List.getElem?_eq_none_iff.1 hx
    unfold PT.keys at this
    rw [List.length_map] at this
    exact this
  unfold PT.putA
  dsimp only
  rw [if_neg (by rw [hh]; simp)]
  unfold insAt
  rw [List.take_of_length_le hge, List.drop_eq_nil_of_le hge]
theorem ansB_app : ∀ (a b : List AN), ansB (a ++ b) = ansB a ++ ansB b
  | [], b => rfl
  | x :: a, b => by rw [List.cons_append, ansB, ansB, ansB_app a b, List.append_assoc]
theorem rdAs_inv : ∀ (k : Nat) (r : RS) (P : PT), (rdAs k (r, P, true)).1.e = 0 → (rdAs k (r, P, true)).2.2 = true →
    r.e = 0 ∧ (∃ l, (rdAs k (r, P, true)).2.1.answers = P.answers ++ l ∧ l.length = k ∧ r.l = ansB l ++ (rdAs k (r, P, true)).1.l) ∧ (rdAs k (r, P, true)).2.1.epoch = P.epoch ∧ (rdAs k (r, P, true)).2.1.objs = P.objs
  | 0, r, P, h, _ => ⟨h, ⟨[], by simp [rdAs, ansB]⟩, rfl, rfl⟩
  | k + 1, r, P, h, hf => by
    have hs : rdAs (k + 1) (r, P, true) = ((rdA (rdAs k (r, P, true)).1).2, (rdAs k (r, P, true)).2.1.putA (rdA (rdAs k (r, P, true)).1).1, (rdAs k (r, P, true)).2.2 && !badA (rdAs k (r, P, true)).2.1 (rdA (rdAs k (r, P, true)).1).1) := rfl
    rw [hs] at h hf ⊢
    dsimp only at h hf ⊢
    obtain ⟨y, hy⟩ : ∃ y, rdAs k (r, P, true) = y := ⟨_, rfl⟩
    rw [hy] at h hf ⊢
    have hf1 := (Bool.and_eq_true_iff.1 hf).1
    have hf2 : badA y.2.1 (rdA y.1).1 = false := by have := (Bool.and_eq_true_iff.1 hf).2; simpa using this
    have hi := rdA_inv h
    obtain ⟨h0, ⟨l, hl1, hl2, hl3⟩, he, ha⟩ := rdAs_inv k r P (by rw [hy]; exact hi.1) (by rw [hy]; exact hf1)
    rw [hy] at hl1 hl3 he ha
    unfold badA at hf2
    have hb1 := (Bool.or_eq_false_iff.1 hf2).1
    have hb2 := (Bool.or_eq_false_iff.1 (Bool.or_eq_false_iff.1 hf2).2).1
    have hpe := PT.putA_end (Option.isSome_eq_false_iff.1 hb1 |> Option.isNone_iff_eq_none.1) hb2
    refine ⟨h0, ⟨l ++ [(rdA y.1).1], by rw [hpe, hl1, List.append_assoc], by simp [hl2], ?_⟩, he, ha⟩
    rw [hl3, hi.2.2, ansB_app]
    simp [ansB]
/-- Open, purely -/
def openP (b : List UInt8) : PT × Bool × Int :=
  let r1 := (RS.mk b 0).num 1
  let c1 := r1.2.count 64
  let x := rdOs c1.1.toNat (c1.2, ⟨r1.1, [], []⟩, true)
  let c2 := x.1.count 3
  let y := rdAs c2.1.toNat (c2.2, x.2.1, true)
  (y.2.1, x.2.2 && y.2.2, y.1.end_)
theorem openP_inv {b : List UInt8} (he : (openP b).2.2 = 0) (hf : (openP b).2.1 = true) : bytesT (openP b).1 = b := by
  unfold openP at he hf ⊢
  dsimp only at he hf ⊢
  obtain ⟨r1, hr1⟩ : ∃ r, (RS.mk b 0).num 1 = r := ⟨_, rfl⟩
  rw [hr1] at he hf ⊢
  obtain ⟨c1, hc1⟩ : ∃ r, r1.2.count 64 = r := ⟨_, rfl⟩
  rw [hc1] at he hf ⊢
  obtain ⟨x, hx⟩ : ∃ x, rdOs c1.1.toNat (c1.2, ⟨r1.1, [], []⟩, true) = x := ⟨_, rfl⟩
  rw [hx] at he hf ⊢
  obtain ⟨c2, hc2⟩ : ∃ r, x.1.count 3 = r := ⟨_, rfl⟩
  rw [hc2] at he hf ⊢
  obtain ⟨y, hy⟩ : ∃ x_, rdAs c2.1.toNat (c2.2, x.2.1, true) = x_ := ⟨_, rfl⟩
  rw [hy] at he hf ⊢
  have hf1 := (Bool.and_eq_true_iff.1 hf).1
  have hf2 := (Bool.and_eq_true_iff.1 hf).2
  have hend : y.1.e = 0 ∧ y.1.l = [] := by
    unfold RS.end_ at he
    split at he
    · rename_i h1
      split at he
      · rename_i h2; exact ⟨h1, h2⟩
      · cases he
    · rename_i h1; exact absurd he h1
  obtain ⟨a0, ⟨la, hla1, hla2, hla3⟩, hla4, hla5⟩ := rdAs_inv c2.1.toNat c2.2 x.2.1 (by rw [hy]; exact hend.1) (by rw [hy]; exact hf2)
  rw [hy] at hla1 hla3 hla4 hla5
  have q2 : (x.1.count 3).2.e = 0 := by rw [hc2]; exact a0
  have i2 := count_is q2
  rw [hc2] at i2
  obtain ⟨o0, ⟨lo, hlo1, hlo2, hlo3⟩, hlo4, hlo5⟩ := rdOs_inv c1.1.toNat c1.2 ⟨r1.1, [], []⟩ (by rw [hx]; exact count_e q2) (by rw [hx]; exact hf1)
  rw [hx] at hlo1 hlo3 hlo4 hlo5
  have q1 : (r1.2.count 64).2.e = 0 := by rw [hc1]; exact o0
  have i1 := count_is q1
  rw [hc1] at i1
  have q0 : ((RS.mk b 0).num 1).2.e = 0 := by rw [hr1]; exact count_e q1
  have i0 := num1_is q0
  rw [hr1] at i0
  have eo : y.2.1.objs = lo := by rw [hla5, hlo1]; rfl
  have ea : y.2.1.answers = la := by rw [hla1, hlo5]; rfl
  have ee : y.2.1.epoch = r1.1 := by rw [hla4, hlo4]
  unfold bytesT headB
  rw [eo, ea, ee, hlo2, hla2, List.nil_append]
  have e0 : b = beBytes 1 r1.1.toNat ++ r1.2.l := i0
  rw [e0, i1, hlo3, i2, hla3, hend.2]
  simp only [List.append_assoc, List.append_nil]
end Go.Proofs.YtmlmhnhilemjhaaDoor
end

section
namespace Go.Proofs.YtmlmhnhilemjhaaDoor
open Go.RowKit
set_option linter.unusedVariables false
set_option maxRecDepth 100000
set_option linter.unusedSimpArgs false

theorem num1_range (r : RS) : 0 ≤ (r.num 1).1 ∧ (r.num 1).1 < 256 := by
  unfold RS.num
  rw [if_pos (show isW 1 = true from rfl)]
  split
  · split
    · simp
    · show 0 ≤ ((be (r.take 1) : Nat) : Int) ∧ ((be (r.take 1) : Nat) : Int) < 256
      have h1 := be_lt (r.take 1)
      have h2 : (r.take 1).length ≤ 1 := by
        unfold RS.take
        split
        · rw [List.length_take]; omega
        · simp
      have h3 : 256 ^ (r.take 1).length ≤ 256 ^ 1 := Nat.pow_le_pow_right (by omega) h2
      omega
  · simp
theorem cnt_rangeT (most : Int) (hm : 0 ≤ most) : ∀ (l : List UInt8) (s n : Nat), 0 ≤ (cnt most l s n).1 ∧ (cnt most l s n).1 ≤ 9007199254740991 ∧ (cnt most l s n).1 ≤ most
  | [], s, n => by rw [cnt_nil]; show (0 : Int) ≤ 0 ∧ (0 : Int) ≤ 9007199254740991 ∧ 0 ≤ most; omega
  | b :: t, s, n => by
    unfold cnt
    split
    · show (0 : Int) ≤ 0 ∧ (0 : Int) ≤ 9007199254740991 ∧ 0 ≤ most; omega
    · split
      · split
        · show (0 : Int) ≤ 0 ∧ (0 : Int) ≤ 9007199254740991 ∧ 0 ≤ most; omega
        · split
          · show (0 : Int) ≤ 0 ∧ (0 : Int) ≤ 9007199254740991 ∧ 0 ≤ most; omega
          · rename_i h1 h2
            unfold mxN at h1
            show (0 : Int) ≤ ((n * 128 + b.toNat % 128 : Nat) : Int) ∧ _ ∧ _
            refine ⟨by omega, by omega, by omega⟩
      · split
        · show (0 : Int) ≤ 0 ∧ (0 : Int) ≤ 9007199254740991 ∧ 0 ≤ most; omega
        · exact cnt_rangeT most hm t (s + 1) _
theorem count_range (r : RS) (most : Int) (hm : 0 ≤ most) : 0 ≤ (r.count most).1 ∧ (r.count most).1 ≤ 9007199254740991 ∧ (r.count most).1 ≤ most := by
  unfold RS.count
  split
  · exact cnt_rangeT most hm _ _ _
  · show (0 : Int) ≤ 0 ∧ (0 : Int) ≤ 9007199254740991 ∧ 0 ≤ most; omega
theorem text_range (r : RS) : (r.text 285).1.length ≤ 285 := by
  unfold RS.text
  have h := count_range r 285 (by omega)
  unfold RS.raw
  split
  · simp
  · unfold RS.take
    split
    · rw [List.length_take]; omega
    · simp
theorem rdO_range (r : RS) : (rdO r).1.name.length = 32 ∧ (0 ≤ (rdO r).1.version ∧ (rdO r).1.version ≤ 9007199254740991) ∧ (rdO r).1.env.length ≤ 285 := by
  have h := count_range (r.raw 32).2 mxI2 (by unfold mxI2; omega)
  exact ⟨nmOf_len (raw32_len r), ⟨h.1, h.2.1⟩, text_range _⟩
theorem rdA_range (r : RS) : (rdA r).1.name.length = 32 ∧ ((0 ≤ (rdA r).1.client ∧ (rdA r).1.client < 256) ∧ (0 ≤ (rdA r).1.num ∧ (rdA r).1.num ≤ 9007199254740991) ∧ (0 ≤ (rdA r).1.code ∧ (rdA r).1.code < 256) ∧ (0 ≤ (rdA r).1.version ∧ (rdA r).1.version ≤ 9007199254740991) ∧ (0 ≤ (rdA r).1.epoch ∧ (rdA r).1.epoch < 256)) ∧ (rdA r).1.env.length ≤ 285 := by
  have hm : (0 : Int) ≤ mxI2 := by unfold mxI2; omega
  have h1 := count_range (r.num 1).2 mxI2 hm
  have h2 := count_range (((r.num 1).2.count mxI2).2.num 1).2 mxI2 hm
  exact ⟨nmOf_len (raw32_len _), ⟨num1_range _, ⟨h1.1, h1.2.1⟩, num1_range _, ⟨h2.1, h2.2.1⟩, num1_range _⟩, text_range _⟩
theorem rdOs_fit : ∀ (k : Nat) (r : RS) (P : PT), P.fit → (rdOs k (r, P, true)).2.1.fit
  | 0, r, P, h => h
  | k + 1, r, P, h => by
    have ih := rdOs_fit k r P h
    refine ⟨ih.ep, fun b hb => ?_, ih.ans⟩
    rcases mem_put hb with rfl | hb
    · exact (rdO_range _).2.1
    · exact ih.vers b hb
theorem rdAs_fit : ∀ (k : Nat) (r : RS) (P : PT), P.fit → (rdAs k (r, P, true)).2.1.fit
  | 0, r, P, h => h
  | k + 1, r, P, h => by
    have ih := rdAs_fit k r P h
    refine ⟨ih.ep, ih.vers, fun a ha => ?_⟩
    rcases mem_putA ha with rfl | ha
    · exact (rdA_range _).2.1
    · exact ih.ans a ha
theorem openP_fit (b : List UInt8) : (openP b).1.fit := by
  have h := num1_range (RS.mk b 0)
  have h0 : PT.fit ⟨((RS.mk b 0).num 1).1, [], []⟩ := ⟨by show 0 ≤ ((RS.mk b 0).num 1).1 ∧ ((RS.mk b 0).num 1).1 ≤ 255; omega, by simp, by simp⟩
  exact rdAs_fit _ _ _ (rdOs_fit _ _ _ h0)
end Go.Proofs.YtmlmhnhilemjhaaDoor
end
