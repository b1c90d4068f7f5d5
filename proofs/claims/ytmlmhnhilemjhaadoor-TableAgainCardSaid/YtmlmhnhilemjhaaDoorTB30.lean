/-
  TABLE, 30: the acts by one contract; what they leave alone.
-/
import Derived.Test.YtmlmhnhilemjhaaDoorTB29
namespace Go.Proofs.YtmlmhnhilemjhaaDoor
open Go.RowKit
set_option linter.unusedVariables false
set_option maxRecDepth 100000
set_option linter.unusedSimpArgs false

theorem bytesV.low {w : World} {F : List Nat} {v : Value} {l : List UInt8} (h : bytesV w F v l) : ∃ F', bytesV w F' v l ∧ ∀ y ∈ F', y < w.heap.size := by
  obtain ⟨A, c, g, rfl, h1, h2, h3, h4⟩ := h
  by_cases hl : l = []
  · subst hl
    exact ⟨[], ⟨A, c, g, rfl, h1, h2, h3, fun h => absurd rfl h⟩, by simp⟩
  · obtain ⟨o, _, hlt, _⟩ := h3 hl
    exact ⟨[g], ⟨A, c, g, rfl, h1, h2, h3, fun _ => by simp⟩, by simpa using hlt⟩
theorem sized_len {n : Nat} (h : sizedP (n : Int) = true) : n ≤ 285 := by
  unfold sizedP at h
  simp only [Bool.or_eq_true, beq_iff_eq] at h
  omega
theorem tok_env {r : RQ} (h : r.tok = true) : r.env.length ≤ 1000 := by
  unfold RQ.tok at h
  have h2 := (Bool.and_eq_true_iff.1 (Bool.and_eq_true_iff.1 h).2).2
  split at h2
  · have := (Bool.and_eq_true_iff.1 h2).2
    simp only [beq_iff_eq] at this
    omega
  · split at h2
    · have := sized_len (Bool.and_eq_true_iff.1 h2).2
      omega
    · split at h2
      · have := (Bool.and_eq_true_iff.1 (Bool.and_eq_true_iff.1 h2).2).2
        simp only [beq_iff_eq] at this
        omega
      · cases h2
theorem act_facts {w : World} {p : Nat} {s : TS} (h : isT w p s) (r : RQ) (a : AN) (han : a.name.length = 32) (hae : a.env = []) :
    (s.pure.act r a).2.client = a.client ∧ (s.pure.act r a).2.num = a.num ∧ (s.pure.act r a).2.name.length = 32 ∧ (s.pure.act r a).2.env.length ≤ 1000 := by
  have he : ∀ t, (s.pure.env t).length ≤ 1000 := fun t => by rw [env_pure]; exact (h.evN t).2
  have hg : ∀ (r : RQ) (a : AN), a.name.length = 32 → a.env = [] → (aGet s.pure r a).client = a.client ∧ (aGet s.pure r a).num = a.num ∧ (aGet s.pure r a).name.length = 32 ∧ (aGet s.pure r a).env.length ≤ 1000 := fun r a h1 h2 => by
    unfold aGet
    split
    · exact ⟨rfl, rfl, h1, he _⟩
    · exact ⟨rfl, rfl, h1, by show a.env.length ≤ 1000; rw [h2]; simp⟩
  unfold PT.act
  split
  · exact hg r a han hae
  · split
    · unfold aPut
      split
      · exact ⟨rfl, rfl, han, by show a.env.length ≤ 1000; rw [hae]; simp⟩
      · exact ⟨rfl, rfl, han, he _⟩
    · split
      · show (aNext s.pure r a).client = _ ∧ (aNext s.pure r a).num = _ ∧ (aNext s.pure r a).name.length = 32 ∧ (aNext s.pure r a).env.length ≤ 1000
        unfold aNext
        cases hn : s.pure.next r.name with
        | none => exact ⟨rfl, rfl, han, by show a.env.length ≤ 1000; rw [hae]; simp⟩
        | some n =>
          rw [next_pure] at hn
          have hl : n.length = 32 := h.names n (List.mem_of_getElem? (by unfold afterN at hn; exact hn))
          exact hg { r with name := n } { a with name := n } hl hae
      · unfold aRaise
        split <;> exact ⟨rfl, rfl, han, by show a.env.length ≤ 1000; rw [hae]; simp⟩
theorem act_answers (P : PT) (r : RQ) (a : AN) : (P.act r a).1.answers = P.answers := by
  unfold PT.act aPut aRaise
  split
  · rfl
  · split
    · split <;> rfl
    · split
      · rfl
      · split <;> rfl
set_option linter.unusedSectionVars false
section
variable (p q : Nat) (s : TS) (F : List Nat) (r : RQ) (ev : Value) (a : AN) (w : World) (h : isT w p s) (hr : rqV w F r ev) (hq : rowAt w q 40 (anL a nilV).toArray) (hqa : q ∉ homes s.av) (hqF : q ∉ F) (han : a.name.length = 32) (hae : a.env = [])
  (hep : 0 ≤ s.epoch ∧ s.epoch ≤ 255) (hb : IntKind.i64.wrap (verN s r.name + 1) = verN s r.name + 1) (hel : r.env.length ≤ 1000)
include h hr hq hqa hqF han hae hep hb hel
theorem act_done1 (hk : r.kind = 1) : Calls Tryd.prog 52 #[.pointer (some ⟨p, 0, none⟩), .agg (rqL r ev).toArray, .pointer (some ⟨q, 0, none⟩)] w (actDone p q s (s.pure.act r a) w) := by
  refine (actGet_any p q s F r ev a w h hr hq han hae).mono ?_
  intro e w' hd
  have := hd.done h hq hqa
  rw [actGet_pure] at this
  unfold PT.act
  rw [if_pos hk]
  exact this
theorem act_done2 (hk : r.kind = 2) : Calls Tryd.prog 53 #[.pointer (some ⟨p, 0, none⟩), .agg (rqL r ev).toArray, .pointer (some ⟨q, 0, none⟩)] w (actDone p q s (s.pure.act r a) w) := by
  unfold PT.act
  rw [if_neg (by rw [hk]; decide), if_pos hk]
  exact actPut_any p q s F r ev a w h hr hq hqa han hae hb hel
theorem act_done3 (hk : r.kind = 3) : Calls Tryd.prog 54 #[.pointer (some ⟨p, 0, none⟩), .agg (rqL r ev).toArray, .pointer (some ⟨q, 0, none⟩)] w (actDone p q s (s.pure.act r a) w) := by
  refine (actNext_any p q s F r ev a w h hr hq hqa hqF han hae).mono ?_
  intro e w' hd
  have := hd.done h hq hqa
  rw [actNext_pure] at this
  unfold PT.act
  rw [if_neg (by rw [hk]; decide), if_neg (by rw [hk]; decide), if_pos hk]
  exact this
theorem act_done4 (hk : r.kind = 4) : Calls Tryd.prog 55 #[.pointer (some ⟨p, 0, none⟩), .agg (rqL r ev).toArray, .pointer (some ⟨q, 0, none⟩)] w (actDone p q s (s.pure.act r a) w) := by
  unfold PT.act
  rw [if_neg (by rw [hk]; decide), if_neg (by rw [hk]; decide), if_neg (by rw [hk]; decide)]
  exact raise_done p q s r ev a w h hq hqa hep hae
end
theorem putI_any (p : Nat) (s : TS) (b : AB) (G : List Nat) (c : Int) (hc : b.ans.client = c) (hb : b.ans.name.length = 32) (hc0 : 0 ≤ c ∧ c ≤ 1000000) (w : World) (h : isT w p s) (hn : s.keys.length < 100) (hel : b.ans.env.length ≤ 1000) (he : bytesV w G b.ev b.ans.env) (hG : u8rows w G) :
    Calls Tryd.prog 30 #[.pointer (some ⟨p, 4, none⟩), .int .i64 c, .agg (abL b).toArray] w (putPostA p s b G w) := by
  subst hc
  rcases Bool.eq_false_or_eq_true (hitI s b.ans.client) with hm | hm
  · exact putI_yes p s b G hb hc0 w h hm hel he hG
  · exact putI_no p s b G hb hc0 w h hm hn hel he hG
end Go.Proofs.YtmlmhnhilemjhaaDoor
