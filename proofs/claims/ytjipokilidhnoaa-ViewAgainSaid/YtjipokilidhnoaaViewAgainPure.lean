/-
  VIEW: ViewAgain, what it says of bytes and rows alone.
-/
import Derived.Test.YtjipokilidhnoaaViewUntilPure
import Derived.Test.YtjipokilidhnoaaNumBackP
import Derived.Test.YtjipokilidhnoaaViewOpen
namespace Go.Proofs.Ytjipokilidhnoaa
open Go.RowKit
set_option linter.unusedVariables false
set_option maxRecDepth 100000

/-! what is read, is what would be written -/
theorem cnt_inv (most : Int) : ∀ (l : List UInt8) (s n : Nat), s = (cbHi n).length → (cnt most l s n).2.e = 0 → ∃ v : Nat, (cnt most l s n).1 = (v : Int) ∧ cbHi n ++ l = cb v ++ (cnt most l s n).2.l := by
  intro l
  induction l with
  | nil => intro s n hs he; rw [cnt_nil] at he; exact absurd he (by decide)
  | cons b t ih =>
    intro s n hs he
    have hb := b.toNat_lt
    have hz := cbHi_nil n
    unfold cnt at he ⊢
    by_cases c1 : s = 0 ∧ b.toNat = 128
    · rw [if_pos c1] at he; exact absurd he (by decide)
    · rw [if_neg c1] at he ⊢
      by_cases c2 : b.toNat < 128
      · rw [if_pos c2] at he ⊢
        by_cases c3 : mxN < n * 128 + b.toNat % 128
        · rw [if_pos c3] at he; exact absurd he (by decide)
        · rw [if_neg c3] at he ⊢
          by_cases c4 : most < ((n * 128 + b.toNat % 128 : Nat) : Int)
          · rw [if_pos c4] at he; exact absurd he (by decide)
          · rw [if_neg c4]
            refine ⟨n * 128 + b.toNat % 128, rfl, ?_⟩
            show cbHi n ++ b :: t = cb _ ++ t
            unfold cb
            rw [show (n * 128 + b.toNat % 128) / 128 = n by omega, show (n * 128 + b.toNat % 128) % 128 = b.toNat by omega]
            simp
      · rw [if_neg c2] at he ⊢
        by_cases c5 : s = 7
        · rw [if_pos c5] at he; exact absurd he (by decide)
        · rw [if_neg c5] at he ⊢
          have hpos : 0 < n * 128 + b.toNat % 128 := by omega
          have hc : cbHi (n * 128 + b.toNat % 128) = cbHi n ++ [b] := by
            rw [cbHi_pos _ hpos, show (n * 128 + b.toNat % 128) / 128 = n by omega, show 128 + (n * 128 + b.toNat % 128) % 128 = b.toNat by omega]
            simp
          obtain ⟨v, h1, h2⟩ := ih (s + 1) (n * 128 + b.toNat % 128) (by rw [hc]; simp [hs]) he
          refine ⟨v, h1, ?_⟩
          rw [← h2, hc]
          simp
theorem count_inv (r : RS) (he : r.e = 0) (most : Int) (h : (r.count most).2.e = 0) : ∃ v : Nat, (r.count most).1 = (v : Int) ∧ r.l = cb v ++ (r.count most).2.l := by
  unfold RS.count at h ⊢
  rw [if_pos he] at h ⊢
  obtain ⟨v, h1, h2⟩ := cnt_inv most r.l 0 0 (by rw [cbHi_zero]; rfl) h
  rw [cbHi_zero] at h2
  exact ⟨v, h1, h2⟩
theorem num1_inv (r : RS) (he : r.e = 0) (h : (r.num 1).2.e = 0) : ∃ v : Nat, v < 256 ∧ (r.num 1).1 = (v : Int) ∧ r.l = beBytes 1 v ++ (r.num 1).2.l := by
  obtain ⟨l, e⟩ := r
  simp only at he
  subst he
  cases l with
  | nil => exact absurd h (by decide)
  | cons b t =>
    have hb := b.toNat_lt
    have hn : (RS.mk (b :: t) 0).num 1 = ((b.toNat : Int), ⟨t, 0⟩) := by
      have e1 : beBytes 1 b.toNat = [b] := by
        show [UInt8.ofNat (b.toNat / 256 ^ 0 % 256)] = [b]
        rw [show b.toNat / 256 ^ 0 % 256 = b.toNat by omega]
        simp
      have := num_back 1 b.toNat t rfl (by omega) (by unfold mxN; omega)
      rw [e1] at this
      exact this
    rw [hn]
    refine ⟨b.toNat, by omega, rfl, ?_⟩
    show b :: t = [UInt8.ofNat (b.toNat / 256 ^ 0 % 256)] ++ t
    rw [show b.toNat / 256 ^ 0 % 256 = b.toNat by omega]
    simp
theorem raw_inv (r : RS) (he : r.e = 0) (n : Nat) (h : (r.raw (n : Int)).2.e = 0) : (r.raw (n : Int)).1.length = n ∧ r.l = (r.raw (n : Int)).1 ++ (r.raw (n : Int)).2.l := by
  obtain ⟨l, e⟩ := r
  simp only at he
  subst he
  unfold RS.raw at h ⊢
  rw [if_neg (by omega)] at h ⊢
  simp only [Int.toNat_natCast] at h ⊢
  unfold RS.past at h ⊢
  unfold RS.take
  simp only [if_pos] at h ⊢
  by_cases c : n ≤ l.length
  · simp only [c, if_pos, and_self] at h ⊢
    exact ⟨by rw [List.length_take]; omega, (List.take_append_drop n l).symm⟩
  · simp only [c, if_false] at h
    exact absurd h (by decide)
theorem count_stick (r : RS) (he : r.e ≠ 0) (m : Int) : (r.count m).2.e ≠ 0 := by unfold RS.count; rw [if_neg he]; exact he
theorem past_stick (r : RS) (he : r.e ≠ 0) (n : Nat) : (r.past n).e ≠ 0 := by unfold RS.past; rw [if_neg he]; exact he
theorem fail_stick (r : RS) (he : r.e ≠ 0) (x : Int) : (r.fail x).e ≠ 0 := by unfold RS.fail; rw [if_neg he]; exact he
theorem num_stick (r : RS) (he : r.e ≠ 0) (n : Int) : (r.num n).2.e ≠ 0 := by
  unfold RS.num
  split
  · split
    · split
      · exact fail_stick _ (past_stick r he _) _
      · exact past_stick r he _
    · exact past_stick r he _
  · exact fail_stick r he _
theorem raw_stick (r : RS) (he : r.e ≠ 0) (n : Int) : (r.raw n).2.e ≠ 0 := by
  unfold RS.raw
  split
  · exact fail_stick r he _
  · exact past_stick r he _
theorem text_inv (r : RS) (he : r.e = 0) (m : Int) (h : (r.text m).2.e = 0) : r.l = cb (r.text m).1.length ++ ((r.text m).1 ++ (r.text m).2.l) := by
  unfold RS.text at h ⊢
  have hc : (r.count m).2.e = 0 := by
    by_cases c : (r.count m).2.e = 0
    · exact c
    · exact absurd h (raw_stick _ c _)
  obtain ⟨v, h1, h2⟩ := count_inv r he m hc
  rw [h1] at h ⊢
  obtain ⟨h3, h4⟩ := raw_inv _ hc v h
  rw [h3, ← h4]
  exact h2
/-! rows as bytes -/
def rowBytes (last : Int) (r : VR) : List UInt8 := cb (r.step - last).toNat ++ (beBytes 1 r.node.toNat ++ (beBytes 1 r.kind.toNat ++ (cb r.bytes.length ++ r.bytes)))
def flatB (h : List UInt8) (L : List VR) : Nat → List UInt8
  | 0 => h
  | k + 1 => match L[k]? with | none => flatB h L k | some r => flatB h L k ++ rowBytes (lastOf (L.take k)) r
theorem flatB_at {h : List UInt8} {L : List VR} {k : Nat} {r : VR} (hr : L[k]? = some r) : flatB h L (k + 1) = flatB h L k ++ rowBytes (lastOf (L.take k)) r := by
  rw [flatB, hr]
theorem flatB_append (h : List UInt8) (M : List VR) (r : VR) : ∀ k, k ≤ M.length → flatB h (M ++ [r]) k = flatB h M k
  | 0, _ => rfl
  | k + 1, hk => by
    obtain ⟨x, hx⟩ : ∃ r, M[k]? = some r := ⟨_, List.getElem?_eq_getElem (by omega)⟩
    rw [flatB_at hx, flatB_at (r := x) (by rw [List.getElem?_append_left (by omega)]; exact hx), flatB_append h M r k (by omega), List.take_append_of_le_length (by omega)]
theorem flatB_pre (h : List UInt8) (L : List VR) (j : Nat) : ∀ k, j ≤ k → ∃ q, flatB h L k = flatB h L j ++ q
  | 0, hk => by obtain rfl : j = 0 := by omega
                exact ⟨[], by simp⟩
  | k + 1, hk => by
    by_cases e : j = k + 1
    · subst e; exact ⟨[], by simp⟩
    · obtain ⟨q, hq⟩ := flatB_pre h L j k (by omega)
      cases hr : L[k]? with
      | none => exact ⟨q, by rw [flatB, hr]; exact hq⟩
      | some r => exact ⟨q ++ rowBytes (lastOf (L.take k)) r, by rw [flatB_at hr, hq, List.append_assoc]⟩
theorem okay_parts {r : VR} (h : r.okay = true) : 0 ≤ r.step ∧ r.step ≤ 9007199254740991 ∧ 0 ≤ r.node ∧ r.node < 256 ∧ 1 ≤ r.kind ∧ r.kind ≤ 3 ∧ r.bytes.length ≤ 65536 := by
  unfold VR.okay isSrv at h
  simp at h
  omega
theorem encTo_flat {L : List VR} (h : goodV L) : ∀ k, k ≤ L.length → encTo L k = ⟨flatB (cb L.length) L k, 0⟩
  | 0, _ => by
    have := h.1
    show (WS.mk [] 0).count (L.length : Int) = _
    unfold WS.count
    rw [if_pos rfl, if_neg (by unfold mxN; omega), Int.toNat_natCast]
    rfl
  | k + 1, hk => by
    obtain ⟨r, hr⟩ : ∃ r, L[k]? = some r := ⟨_, List.getElem?_eq_getElem (by omega)⟩
    have hg := h.2 k r hr
    have hl := h.last k (by omega)
    obtain ⟨a1, a2, a3, a4, a5, a6, a7⟩ := okay_parts hg.1
    rw [encTo_at hr, flatB_at hr, encTo_flat h k (by omega)]
    unfold encStep rowBytes
    have e1 : (WS.mk (flatB (cb L.length) L k) 0).count (r.step - lastOf (L.take k)) = ⟨flatB (cb L.length) L k ++ cb (r.step - lastOf (L.take k)).toNat, 0⟩ := by
      unfold WS.count
      rw [if_pos rfl, if_neg (by unfold mxN; omega)]
    have en : ∀ (b : List UInt8) (n : Int), 0 ≤ n → n < 256 → (WS.mk b 0).num 1 n = ⟨b ++ beBytes 1 n.toNat, 0⟩ := fun b n h0 h1 => by
      unfold WS.num
      have hf : fitsP 1 n = true := by unfold fitsP; simp; omega
      simp [hf, isW]
    rw [e1, en _ _ a3 a4, en _ _ (by omega) (by omega)]
    have et : ∀ (b t : List UInt8), t.length ≤ 65536 → (WS.mk b 0).text t = ⟨b ++ (cb t.length ++ t), 0⟩ := fun b t ht => by
      have ec : (WS.mk b 0).count (t.length : Int) = ⟨b ++ cb t.length, 0⟩ := by
        unfold WS.count
        rw [if_pos rfl, if_neg (by unfold mxN; omega), Int.toNat_natCast]
      unfold WS.text
      rw [ec]
      unfold WS.raw
      rw [if_pos rfl, List.append_assoc]
    rw [et _ _ a7]
    simp
/-! (A) what can be opened has just these bytes -/
structure openInv (b : List UInt8) (k : Nat) : Prop where
  bytes : b = flatB (cb (openN b)) (openTo b k).rows k ++ (openTo b k).rd.l
  step : (openTo b k).step = lastOf (openTo b k).rows
  rng : 0 ≤ (openTo b k).step ∧ (openTo b k).step ≤ 9007199254740991
  good : ∀ (i : Nat) (r : VR), (openTo b k).rows[i]? = some r → r.okay = true ∧ lastOf ((openTo b k).rows.take i) ≤ r.step
theorem open_inv (b : List UInt8) : ∀ k, (openTo b k).rd.e = 0 → (openTo b k).formed = true → openInv b k
  | 0, he, _ => by
    obtain ⟨v, h1, h2⟩ := count_inv (RS.mk b 0) rfl 20000 he
    have hn : openN b = v := by unfold openN; rw [h1]; rfl
    exact ⟨by rw [hn]; exact h2, rfl, ⟨Int.le_refl _, by show (0 : Int) ≤ 9007199254740991; omega⟩, fun i r hr => by simp [openTo] at hr⟩
  | k + 1, he, hf => by
    have hlen := openTo_len b k
    generalize hx : openTo b k = x at hlen
    have hs : openTo b (k + 1) = openStep x := by show openStep (openTo b k) = _; rw [hx]
    rw [hs] at he hf
    unfold openStep at he hf
    dsimp only at he hf
    rw [Bool.and_eq_true] at hf
    have h3 : (((x.rd.count 9007199254740991).2.num 1).2.num 1).2.e = 0 := by
      by_cases c : (((x.rd.count 9007199254740991).2.num 1).2.num 1).2.e = 0
      · exact c
      · refine absurd he ?_
        unfold RS.text
        exact raw_stick _ (count_stick _ c _) _
    have h2 : ((x.rd.count 9007199254740991).2.num 1).2.e = 0 := by
      by_cases c : ((x.rd.count 9007199254740991).2.num 1).2.e = 0
      · exact c
      · exact absurd h3 (num_stick _ c _)
    have h1 : (x.rd.count 9007199254740991).2.e = 0 := by
      by_cases c : (x.rd.count 9007199254740991).2.e = 0
      · exact c
      · exact absurd h2 (num_stick _ c _)
    have h0 : x.rd.e = 0 := by
      by_cases c : x.rd.e = 0
      · exact c
      · exact absurd h1 (count_stick _ c _)
    have ih := open_inv b k (by rw [hx]; exact h0) (by rw [hx]; exact hf.1)
    have ib := ih.bytes
    have ist := ih.step
    have ir := ih.rng
    have ig := ih.good
    rw [hx] at ib ist ir ig
    obtain ⟨v0, e0, l0⟩ := count_inv x.rd h0 _ h1
    obtain ⟨v1, hv1, e1, l1⟩ := num1_inv _ h1 h2
    obtain ⟨v2, hv2, e2, l2⟩ := num1_inv _ h2 h3
    have l3 := text_inv _ h3 65536 he
    have hcm := x.rd.count_most 9007199254740991 (by omega)
    rw [e0] at hcm
    have hok := hf.2
    rw [e0, e1, e2] at hok
    have hwr : IntKind.i64.wrap (x.step + (v0 : Int)) = x.step + (v0 : Int) := wraps_i64 _ (by omega) (by omega)
    rw [hwr] at hok
    obtain ⟨a1, a2, a3, a4, a5, a6, a7⟩ := okay_parts hok
    dsimp only at a1 a2 a7
    have hrows : (openTo b (k + 1)).rows = x.rows ++ [⟨x.step + (v0 : Int), (v1 : Int), (v2 : Int), ((((x.rd.count 9007199254740991).2.num 1).2.num 1).2.text 65536).1⟩] := by
      rw [hs]; unfold openStep; dsimp only; rw [e0, e1, e2, hwr]
    have hstep : (openTo b (k + 1)).step = x.step + (v0 : Int) := by rw [hs]; unfold openStep; dsimp only; rw [e0, hwr]
    have hrd : (openTo b (k + 1)).rd.l = ((((x.rd.count 9007199254740991).2.num 1).2.num 1).2.text 65536).2.l := by rw [hs]; rfl
    refine ⟨?_, ?_, by rw [hstep]; omega, fun i r hr => ?_⟩
    · rw [hrows, hrd, flatB_at (r := ⟨x.step + (v0 : Int), (v1 : Int), (v2 : Int), ((((x.rd.count 9007199254740991).2.num 1).2.num 1).2.text 65536).1⟩) (by rw [List.getElem?_append_right (by omega), hlen]; simp), flatB_append _ _ _ k (by omega), List.take_append_of_le_length (by omega), List.take_of_length_le (by omega), ← ist]
      unfold rowBytes
      dsimp only
      rw [show (x.step + (v0 : Int) - x.step).toNat = v0 by omega, Int.toNat_natCast, Int.toNat_natCast]
      conv => lhs; rw [ib, l0, l1, l2, l3]
      simp only [List.append_assoc]
    · rw [hstep, hrows]
      unfold lastOf
      rw [List.getLast?_append]
      rfl
    · rw [hrows] at hr ⊢
      by_cases c : i < x.rows.length
      · rw [List.getElem?_append_left c] at hr
        rw [List.take_append_of_le_length (by omega)]
        exact ig i r hr
      · have hi : i = x.rows.length := by have := (List.getElem?_eq_some_iff.1 hr).1; simp at this; omega
        subst hi
        rw [List.getElem?_append_right (by omega)] at hr
        simp at hr
        subst hr
        rw [List.take_append_of_le_length (by omega), List.take_of_length_le (by omega), ← ist]
        exact ⟨hok, by dsimp only; omega⟩
theorem open_back (b : List UInt8) (h0 : (openTo b (openN b)).rd.end_ = 0) (hf : (openTo b (openN b)).formed = true) :
    goodV (openTo b (openN b)).rows ∧ (encTo (openTo b (openN b)).rows (openTo b (openN b)).rows.length).bytes = b := by
  have he : (openTo b (openN b)).rd.e = 0 ∧ (openTo b (openN b)).rd.l = [] := by
    unfold RS.end_ at h0
    by_cases c : (openTo b (openN b)).rd.e = 0
    · rw [if_pos c] at h0
      refine ⟨c, ?_⟩
      by_cases d : (openTo b (openN b)).rd.l = []
      · exact d
      · rw [if_neg d] at h0; exact absurd h0 (by decide)
    · rw [if_neg c] at h0; exact absurd h0 c
  have hi := open_inv b _ he.1 hf
  have hlen := openTo_len b (openN b)
  have hm := (RS.mk b 0).count_most 20000 (by omega)
  have hr := (RS.mk b 0).count_range 20000
  have hn : openN b ≤ 20000 := by unfold openN; omega
  have hg : goodV (openTo b (openN b)).rows := ⟨by rw [hlen]; exact hn, hi.good⟩
  refine ⟨hg, ?_⟩
  have hb := hi.bytes
  rw [he.2, List.append_nil] at hb
  rw [encTo_flat hg _ (Nat.le_refl _), hlen]
  unfold WS.bytes
  rw [if_pos rfl]
  exact hb.symm
/-! (B) a view that is opened of its bytes is the same -/
theorem back_inv {L : List VR} (h : goodV L) : ∀ k, k ≤ L.length → ∃ rest, (openTo (flatB (cb L.length) L L.length) k) = ⟨lastOf (L.take k), true, ⟨rest, 0⟩, L.take k⟩ ∧ flatB (cb L.length) L L.length = flatB (cb L.length) L k ++ rest
  | 0, _ => by
    obtain ⟨q, hq⟩ := flatB_pre (cb L.length) L 0 L.length (by omega)
    have h1 := h.1
    refine ⟨q, ?_, hq⟩
    have hc := count_back L.length 20000 q (by unfold mxN; omega) (by omega)
    show OS.mk 0 true ((RS.mk (flatB (cb L.length) L L.length) 0).count 20000).2 [] = _
    rw [hq]
    show OS.mk 0 true ((RS.mk (cb L.length ++ q) 0).count 20000).2 [] = _
    rw [hc]
    rfl
  | k + 1, hk => by
    obtain ⟨rest, e1, e2⟩ := back_inv h k (by omega)
    obtain ⟨q, hq⟩ := flatB_pre (cb L.length) L (k + 1) L.length hk
    obtain ⟨r, hr⟩ : ∃ r, L[k]? = some r := ⟨_, List.getElem?_eq_getElem (by omega)⟩
    have hg := h.2 k r hr
    have hl := h.last k (by omega)
    obtain ⟨a1, a2, a3, a4, a5, a6, a7⟩ := okay_parts hg.1
    have hrest : rest = cb (r.step - lastOf (L.take k)).toNat ++ (beBytes 1 r.node.toNat ++ (beBytes 1 r.kind.toNat ++ (cb r.bytes.length ++ r.bytes ++ q))) := by
      have h3 := hq
      rw [flatB_at hr, List.append_assoc] at h3
      have h4 := List.append_cancel_left (e2.symm.trans h3)
      rw [h4]
      unfold rowBytes
      simp only [List.append_assoc]
    refine ⟨q, ?_, hq⟩
    show openStep (openTo _ k) = _
    rw [e1, hrest]
    have c0 := count_back (r.step - lastOf (L.take k)).toNat 9007199254740991 (beBytes 1 r.node.toNat ++ (beBytes 1 r.kind.toNat ++ (cb r.bytes.length ++ r.bytes ++ q))) (by unfold mxN; omega) (by omega)
    have c1 := num_back 1 r.node.toNat (beBytes 1 r.kind.toNat ++ (cb r.bytes.length ++ r.bytes ++ q)) rfl (by omega) (by unfold mxN; omega)
    have c2 := num_back 1 r.kind.toNat (cb r.bytes.length ++ r.bytes ++ q) rfl (by omega) (by unfold mxN; omega)
    have c3 := text_back r.bytes q 65536 (by unfold mxN; omega) (by omega)
    rw [show ((1 : Nat) : Int) = 1 from rfl] at c1 c2
    have hw : IntKind.i64.wrap (lastOf (L.take k) + ((r.step - lastOf (L.take k)).toNat : Int)) = r.step := by rw [wraps_i64 _ (by omega) (by omega)]; omega
    have hr2 : (⟨r.step, (r.node.toNat : Int), (r.kind.toNat : Int), r.bytes⟩ : VR) = r := by
      obtain ⟨s, nd, kd, b⟩ := r
      dsimp only at a3 a5 ⊢
      rw [Int.toNat_of_nonneg a3, Int.toNat_of_nonneg (by omega)]
    unfold openStep
    dsimp only
    rw [c0]
    dsimp only
    rw [c1]
    dsimp only
    rw [c2]
    dsimp only
    rw [c3]
    dsimp only
    rw [hw, hr2, hg.1, lastOf_at hr, List.take_add_one, hr]
    rfl
theorem open_enc {L : List VR} (h : goodV L) : openN (encTo L L.length).bytes = L.length ∧ (openTo (encTo L L.length).bytes L.length).rd.end_ = 0 ∧ (openTo (encTo L L.length).bytes L.length).formed = true ∧ (openTo (encTo L L.length).bytes L.length).rows = L := by
  have hb : (encTo L L.length).bytes = flatB (cb L.length) L L.length := by
    rw [encTo_flat h _ (Nat.le_refl _)]
    unfold WS.bytes
    rw [if_pos rfl]
  rw [hb]
  obtain ⟨rest, e1, e2⟩ := back_inv h L.length (Nat.le_refl _)
  have hr : rest = [] := by
    have := congrArg List.length e2
    rw [List.length_append] at this
    exact List.eq_nil_of_length_eq_zero (by omega)
  subst hr
  obtain ⟨q, hq⟩ := flatB_pre (cb L.length) L 0 L.length (by omega)
  have h1 := h.1
  have hc := count_back L.length 20000 q (by unfold mxN; omega) (by omega)
  refine ⟨?_, by rw [e1]; rfl, by rw [e1], by rw [e1, List.take_length]⟩
  rw [hq]
  unfold openN
  show ((RS.mk (cb L.length ++ q) 0).count 20000).1.toNat = _
  rw [hc]
  rfl
end Go.Proofs.Ytjipokilidhnoaa
