/-
  TABLE, 35: a writer that has met no error.
-/
import Derived.Test.YtmlmhnhilemjhaaDoorTB30
import Derived.Test.YtmlmhnhilemjhaaDoorLow4
namespace Go.Proofs.YtmlmhnhilemjhaaDoor
open Go.RowKit
set_option linter.unusedVariables false
set_option maxRecDepth 100000

/-- a writer that was made since w0, and has met no error; nothing that was there in w0 has changed -/
def wOk (w0 w : World) (p : Nat) (l : List UInt8) : Prop :=
  ∃ v, isWr w p v ⟨l, 0⟩ ∧ w0.heap.size ≤ p ∧ (∀ x ∈ homes v, w0.heap.size ≤ x) ∧ keepBut [] w0 w
theorem wOk.kept {w0 w : World} {p : Nat} {l : List UInt8} (h : wOk w0 w p l) : keepBut [] w0 w := by obtain ⟨v, _, _, _, h⟩ := h; exact h
theorem wOk.lt {w0 w : World} {p : Nat} {l : List UInt8} (h : wOk w0 w p l) : p < w.heap.size := by obtain ⟨v, h, _⟩ := h; exact h.1.lt
theorem wOk.over {w0 w w' : World} {p : Nat} {l : List UInt8} (h : wOk w0 w p l) (hk : keepBut [] w w') : wOk w0 w' p l := by
  obtain ⟨v, h1, h2, h3, h4⟩ := h
  exact ⟨v, h1.keep hk (by simp) (by simp), h2, h3, h4.then hk (by simp)⟩
theorem wOk.step {w0 w w' : World} {p : Nat} {l m : List UInt8} {v : Value} {e : Ending} (h : isWr w p v ⟨l, 0⟩) (h1 : w0.heap.size ≤ p) (h2 : ∀ x ∈ homes v, w0.heap.size ≤ x) (h3 : keepBut [] w0 w) (hp : wrPost p v ⟨m, 0⟩ w e w') :
    e = .returned (.pointer (some ⟨p, 0, none⟩)) ∧ wOk w0 w' p m := by
  obtain ⟨he, v', hw, hk, hh⟩ := hp
  refine ⟨he, v', hw, h1, fun x hx => ?_, h3.then hk (fun x hx => .inr ?_)⟩
  · rcases hh x hx with q | q
    · exact h2 x q
    · have := h3.size; omega
  · rcases List.mem_cons.1 hx with rfl | hx
    · exact h1
    · exact h2 x hx
theorem ws_num1 (l : List UInt8) {n : Int} (h0 : 0 ≤ n) (h1 : n < 256) : (WS.mk l 0).num 1 n = ⟨l ++ beBytes 1 n.toNat, 0⟩ := by
  unfold WS.num
  have hf : fitsP 1 n = true := by
    unfold fitsP
    rw [if_neg (by omega)]
    simp; omega
  have hw : isW 1 = true := rfl
  simp [hf, hw]
theorem ws_count (l : List UInt8) {n : Int} (h0 : 0 ≤ n) (h1 : n ≤ 9007199254740991) : (WS.mk l 0).count n = ⟨l ++ cb n.toNat, 0⟩ := by
  unfold WS.count
  rw [if_pos rfl, if_neg (by unfold mxN; omega)]
theorem ws_raw (l t : List UInt8) : (WS.mk l 0).raw t = ⟨l ++ t, 0⟩ := by
  unfold WS.raw
  rw [if_pos rfl]
theorem ws_text (l t : List UInt8) (h : t.length ≤ 1000000000) : (WS.mk l 0).text t = ⟨(l ++ cb t.length) ++ t, 0⟩ := by
  unfold WS.text
  rw [ws_count l (by omega) (by omega), ws_raw, Int.toNat_natCast]
def onPost (w0 : World) (p : Nat) (l : List UInt8) (e : Ending) (w' : World) : Prop := e = .returned (.pointer (some ⟨p, 0, none⟩)) ∧ wOk w0 w' p l
theorem wOk.start {w0 : World} : Calls Tryd.prog 31 #[] w0 fun e w' => ∃ p, e = .returned (.pointer (some ⟨p, 0, none⟩)) ∧ wOk w0 w' p [] :=
  (write_any w0).mono fun e w' ⟨p, he, h1, h2, h3⟩ => ⟨p, he, _, h1, h2, by simp [homes_none], h3⟩
theorem wOk.num {w0 w : World} {p : Nat} {l : List UInt8} (h : wOk w0 w p l) (n : Int) (h0 : 0 ≤ n) (h1 : n < 256) (hb : l.length ≤ 1000000000) :
    Calls Tryd.prog 32 #[.pointer (some ⟨p, 0, none⟩), .int .i64 1, .int .i64 n] w (onPost w0 p (l ++ beBytes 1 n.toNat)) := by
  obtain ⟨v, a, b, c, d⟩ := h
  refine (wnum_any p v _ 1 n w a hb).mono fun e w' hp => ?_
  rw [ws_num1 l h0 h1] at hp
  exact wOk.step a b c d hp
theorem wOk.count {w0 w : World} {p : Nat} {l : List UInt8} (h : wOk w0 w p l) (n : Int) (h0 : 0 ≤ n) (h1 : n ≤ 9007199254740991) (hb : l.length ≤ 1000000000) :
    Calls Tryd.prog 33 #[.pointer (some ⟨p, 0, none⟩), .int .i64 n] w (onPost w0 p (l ++ cb n.toNat)) := by
  obtain ⟨v, a, b, c, d⟩ := h
  refine (wcount_any p v _ n w a hb).mono fun e w' hp => ?_
  rw [ws_count l h0 h1] at hp
  exact wOk.step a b c d hp
theorem wOk.raw {w0 w : World} {p : Nat} {l : List UInt8} (h : wOk w0 w p l) (A : Option Addr) (g n c : Nat) (t : List UInt8) (hn : t.length = n) (hs : seen w A g t) (hb : l.length ≤ 1000000000) (hb2 : t.length ≤ 1000000000) :
    Calls Tryd.prog 35 #[.pointer (some ⟨p, 0, none⟩), .slice A n c] w (onPost w0 p (l ++ t)) := by
  subst hn
  obtain ⟨v, a, b, d, k⟩ := h
  refine (wraw_any p v _ A g c t w a hs (show l.length + t.length ≤ _ by omega)).mono fun e w' hp => ?_
  rw [ws_raw] at hp
  exact wOk.step a b d k hp
/-- a string out of memory that was there before the writer -/
theorem wOk.text {w0 w : World} {p : Nat} {l : List UInt8} (h : wOk w0 w p l) (A : Option Addr) (g n c : Nat) (t : List UInt8) (hn : t.length = n) (hs : seen w0 A g t) (hb : l.length ≤ 1000000000) (hb2 : t.length ≤ 1000000000) :
    Calls Tryd.prog 36 #[.pointer (some ⟨p, 0, none⟩), .slice A n c] w (onPost w0 p ((l ++ cb t.length) ++ t)) := by
  subst hn
  obtain ⟨v, a, b, d, k⟩ := h
  have hg : t ≠ [] → g < w0.heap.size := fun hne => by obtain ⟨o, _, h2, _⟩ := hs hne; exact h2
  refine (wtext_any p v _ A g c t w a (hs.keep k (by simp)) (fun hne => ⟨fun e => by have := hg hne; omega, fun hm => by have := hg hne; have := d g hm; omega⟩) hb hb2).mono fun e w' hp => ?_
  rw [ws_text l t hb2] at hp
  exact wOk.step a b d k hp
/-- a string out of memory that came behind the writer -/
theorem wOk.textNew {w0 wb w : World} {p : Nat} {l : List UInt8} (h : wOk w0 wb p l) (hk : keepBut [] wb w) (A : Option Addr) (g n c : Nat) (t : List UInt8) (hn : t.length = n) (hs : seen w A g t) (hg : t ≠ [] → wb.heap.size ≤ g) (hb : l.length ≤ 1000000000) (hb2 : t.length ≤ 1000000000) :
    Calls Tryd.prog 36 #[.pointer (some ⟨p, 0, none⟩), .slice A n c] w (onPost w0 p ((l ++ cb t.length) ++ t)) := by
  subst hn
  obtain ⟨v, a, b, d, k⟩ := h
  have hp1 := a.1.lt
  have hp2 := a.2.lt
  refine (wtext_any p v _ A g c t w (a.keep hk (by simp) (by simp)) hs (fun hne => ⟨fun e => by have := hg hne; omega, fun hm => by have := hg hne; have := hp2 g hm; omega⟩) hb hb2).mono fun e w' hp => ?_
  rw [ws_text l t hb2] at hp
  exact wOk.step (a.keep hk (by simp) (by simp)) b d (k.then hk (by simp)) hp
def outPost (w0 : World) (l : List UInt8) (e : Ending) (w' : World) : Prop := ∃ v G, e = .returned (.tuple #[v, .int .i64 0]) ∧ bytesV w' G v l ∧ newIn w0 w' G ∧ keepBut [] w0 w'
theorem wOk.bytes {w0 w : World} {p : Nat} {l : List UInt8} (h : wOk w0 w p l) (hb : l.length ≤ 1000000000) :
    Calls Tryd.prog 38 #[.pointer (some ⟨p, 0, none⟩)] w (outPost w0 l) := by
  obtain ⟨v, a, b, d, k⟩ := h
  refine (wbytes_any p v _ w a (show l.length ≤ _ by omega)).mono fun e w' hp => ?_
  obtain ⟨v', he, h1, h2, h3⟩ := hp
  have hl : (WS.mk l 0).bytes = l := by simp [WS.bytes]
  rw [hl] at h1
  obtain ⟨A3, c3, e3, h31, h32, h33, h34⟩ := h1.form
  subst e3
  obtain ⟨g3, hg3⟩ := homes_one (.slice A3 l.length c3)
  have hks := k.size
  refine ⟨_, homes (.slice A3 l.length c3), he, ⟨A3, c3, g3, rfl, h31, h32, reads.seenB (h34 g3 hg3), fun hne => ?_⟩, fun y hy => ⟨by have := h2 y hy; omega, h33 y hy⟩, k.then h3 (by simp)⟩
  obtain ⟨o, hA, _⟩ := (h34 g3 hg3).2 (List.length_pos_iff.2 hne)
  rw [hA]; simp [homes_some]

end Go.Proofs.YtmlmhnhilemjhaaDoor
