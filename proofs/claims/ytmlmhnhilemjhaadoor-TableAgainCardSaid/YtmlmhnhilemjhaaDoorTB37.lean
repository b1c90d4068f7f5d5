/-
  TABLE, 37: Do, whatever the request; a law's table.
-/
import Derived.Test.YtmlmhnhilemjhaaDoorTB31
import Derived.Test.YtmlmhnhilemjhaaDoorTB32
import Derived.Test.YtmlmhnhilemjhaaDoorTB33
import Derived.Test.YtmlmhnhilemjhaaDoorTB34
import Derived.Test.YtmlmhnhilemjhaaDoorTB36
namespace Go.Proofs.YtmlmhnhilemjhaaDoor
open Go.RowKit
set_option linter.unusedVariables false
set_option maxRecDepth 100000
set_option linter.unusedSimpArgs false

theorem tok_facts {r : RQ} (h : r.tok = true) : (0 ≤ r.client ∧ r.client ≤ 2) ∧ (1 ≤ r.num ∧ r.num ≤ 9007199254740991) ∧ (r.kind = 1 ∨ r.kind = 2 ∨ r.kind = 3 ∨ r.kind = 4) ∧ (0 ≤ r.version ∧ r.version ≤ 9007199254740991) ∧ (r.kind = 4 → 1 ≤ r.version ∧ r.version ≤ 255) := by
  unfold RQ.tok at h
  have h1 := inP_iff.1 (Bool.and_eq_true_iff.1 h).1
  have h2 := inP_iff.1 (Bool.and_eq_true_iff.1 (Bool.and_eq_true_iff.1 h).2).1
  have h3 := (Bool.and_eq_true_iff.1 (Bool.and_eq_true_iff.1 h).2).2
  refine ⟨h1, h2, ?_⟩
  split at h3
  · rename_i hk
    have := (Bool.and_eq_true_iff.1 h3).1
    simp only [beq_iff_eq] at this
    exact ⟨by omega, by omega, fun h4 => by omega⟩
  · split at h3
    · rename_i hk
      have := inP_iff.1 (Bool.and_eq_true_iff.1 h3).1
      exact ⟨by omega, by omega, fun h4 => by omega⟩
    · split at h3
      · rename_i hk
        have := inP_iff.1 (Bool.and_eq_true_iff.1 h3).1
        exact ⟨by omega, by omega, fun h4 => this⟩
      · cases h3
theorem do_any (p : Nat) (s : TS) (F : List Nat) (r : RQ) (ev : Value) (w : World) (h : isT w p s) (hr : rqV w F r ev) (hsz : sizesAt w) (hep : 0 ≤ s.epoch ∧ s.epoch ≤ 255) (hb : IntKind.i64.wrap (verN s r.name + 1) = verN s r.name + 1) (hf : s.keys.length < 100) :
    Calls Tryd.prog 11 #[.pointer (some ⟨p, 0, none⟩), .agg (rqL r ev).toArray] w (doPost p s (s.pure.done r) w) := by
  rcases Bool.eq_false_or_eq_true r.tok with ht | ht
  · by_cases h1 : r.num = (ansI s r.client).num
    · have e : s.pure.done r = (s.pure, ansI s r.client, 0) := by
        unfold PT.done
        rw [if_neg (by rw [ht]; simp), last_pure, if_pos h1]
      rw [e]
      exact do_same p s F r ev w h hr hsz ht h1
    · by_cases h2 : r.num < (ansI s r.client).num
      · have e : s.pure.done r = (s.pure, ⟨r.client, r.num, 3, 0, s.epoch, r.name, []⟩, 0) := by
          unfold PT.done
          rw [if_neg (by rw [ht]; simp), last_pure, if_neg h1, if_pos h2]
          rfl
        rw [e]
        exact do_old p s F r ev w h hr hsz ht ⟨h1, h2⟩
      · rcases (tok_facts ht).2.2.1 with hk | hk | hk | hk
        · exact do_act1 p s F r ev w h hr hsz ht ⟨h1, h2⟩ hk hep hb hf
        · exact do_act2 p s F r ev w h hr hsz ht ⟨h1, h2⟩ hk hep hb hf
        · exact do_act3 p s F r ev w h hr hsz ht ⟨h1, h2⟩ hk hep hb hf
        · exact do_act4 p s F r ev w h hr hsz ht ⟨h1, h2⟩ hk hep hb hf
  · have e : s.pure.done r = (s.pure, anZero, 2) := by
      unfold PT.done
      rw [if_pos ht]
    rw [e]
    exact do_bad p s F r ev w h hr hsz ht
/-! the pure table keeps its bounds -/
theorem mem_put {P : PT} {b x : OP} (h : x ∈ (P.put b).objs) : x = b ∨ x ∈ P.objs := by
  unfold PT.put at h
  dsimp only at h
  split at h
  · rcases List.mem_or_eq_of_mem_set h with h1 | h1
    · exact .inr h1
    · exact .inl h1
  · exact insAt_mem h
theorem mem_putA {P : PT} {b x : AN} (h : x ∈ (P.putA b).answers) : x = b ∨ x ∈ P.answers := by
  unfold PT.putA at h
  dsimp only at h
  split at h
  · rcases List.mem_or_eq_of_mem_set h with h1 | h1
    · exact .inr h1
    · exact .inl h1
  · exact insAt_mem h
theorem PT.fit.ver {P : PT} (h : P.fit) (t : List UInt8) : 0 ≤ P.ver t ∧ P.ver t ≤ 9007199254740991 := by
  unfold PT.ver PT.get
  split
  · rename_i b hb
    split at hb
    · exact h.vers b (List.mem_of_getElem? hb)
    · cases hb
  · omega
/-- what an act does, in bounds -/
theorem act_fit {P : PT} (h : P.fit) {r : RQ} (ht : r.tok = true) (nm : List UInt8) :
    ((0 ≤ (P.act r ⟨r.client, r.num, 0, 0, 0, nm, []⟩).1.epoch ∧ (P.act r ⟨r.client, r.num, 0, 0, 0, nm, []⟩).1.epoch ≤ 255) ∧
    (∀ b ∈ (P.act r ⟨r.client, r.num, 0, 0, 0, nm, []⟩).1.objs, 0 ≤ b.version ∧ b.version ≤ 9007199254740991)) ∧
    ((P.act r ⟨r.client, r.num, 0, 0, 0, nm, []⟩).2.client = r.client ∧ (P.act r ⟨r.client, r.num, 0, 0, 0, nm, []⟩).2.num = r.num ∧ (0 ≤ (P.act r ⟨r.client, r.num, 0, 0, 0, nm, []⟩).2.code ∧ (P.act r ⟨r.client, r.num, 0, 0, 0, nm, []⟩).2.code < 256) ∧
    (0 ≤ (P.act r ⟨r.client, r.num, 0, 0, 0, nm, []⟩).2.version ∧ (P.act r ⟨r.client, r.num, 0, 0, 0, nm, []⟩).2.version ≤ 9007199254740991)) := by
  have hv := fun t => h.ver t
  have hf := tok_facts ht
  have hg : ∀ (r : RQ) (a : AN), a.code = 0 → a.version = 0 → (aGet P r a).client = a.client ∧ (aGet P r a).num = a.num ∧ (0 ≤ (aGet P r a).code ∧ (aGet P r a).code < 256) ∧ (0 ≤ (aGet P r a).version ∧ (aGet P r a).version ≤ 9007199254740991) := fun r a h1 h2 => by
    unfold aGet
    split
    · exact ⟨rfl, rfl, by show 0 ≤ a.code ∧ a.code < 256; omega, hv _⟩
    · exact ⟨rfl, rfl, by show (0 : Int) ≤ 1 ∧ (1 : Int) < 256; omega, by show 0 ≤ a.version ∧ a.version ≤ 9007199254740991; omega⟩
  unfold PT.act
  split
  · exact ⟨⟨h.ep, h.vers⟩, hg r _ rfl rfl⟩
  · split
    · unfold aPut
      split
      · refine ⟨⟨h.ep, fun b hb => ?_⟩, rfl, rfl, by show (0 : Int) ≤ 0 ∧ (0 : Int) < 256; omega, hf.2.2.2.1⟩
        rcases mem_put hb with rfl | hb
        · exact hf.2.2.2.1
        · exact h.vers b hb
      · exact ⟨⟨h.ep, h.vers⟩, rfl, rfl, by show (0 : Int) ≤ 2 ∧ (2 : Int) < 256; omega, hv _⟩
    · split
      · refine ⟨⟨h.ep, h.vers⟩, ?_⟩
        show (aNext P r _).client = _ ∧ _
        unfold aNext
        cases P.next r.name with
        | none => exact ⟨rfl, rfl, by show (0 : Int) ≤ 1 ∧ (1 : Int) < 256; omega, by show (0 : Int) ≤ 0 ∧ (0 : Int) ≤ 9007199254740991; omega⟩
        | some n => exact hg _ _ rfl rfl
      · rename_i h1 h2 h3
        have hk : r.kind = 4 := by have := hf.2.2.1; omega
        have := hf.2.2.2.2 hk
        have := h.ep
        unfold aRaise
        split
        · exact ⟨⟨by show 0 ≤ r.version ∧ r.version ≤ 255; omega, h.vers⟩, rfl, rfl, by show (0 : Int) ≤ 0 ∧ (0 : Int) < 256; omega, hf.2.2.2.1⟩
        · exact ⟨⟨h.ep, h.vers⟩, rfl, rfl, by show (0 : Int) ≤ 2 ∧ (2 : Int) < 256; omega, by show 0 ≤ P.epoch ∧ P.epoch ≤ 9007199254740991; omega⟩
def PT.low (P : PT) : Prop := ∀ a ∈ P.answers, a.client ≤ 2
theorem done_fit {P : PT} (h : P.fit) (hl : P.low) (r : RQ) : (P.done r).1.fit ∧ (P.done r).1.low := by
  unfold PT.done
  split
  · exact ⟨h, hl⟩
  · rename_i ht
    have ht : r.tok = true := by cases hh : r.tok with | true => rfl | false => exact absurd hh ht
    split
    · exact ⟨h, hl⟩
    · split
      · exact ⟨h, hl⟩
      · have hf := tok_facts ht
        have ha := act_fit h ht r.name
        have hans := act_answers P r ⟨r.client, r.num, 0, 0, 0, r.name, []⟩
        refine ⟨⟨ha.1.1, ha.1.2, fun a hm => ?_⟩, fun a hm => ?_⟩
        · rcases mem_putA hm with rfl | hm
          · refine ⟨?_, ?_, ha.2.2.2.1, ha.2.2.2.2, ?_⟩
            · show 0 ≤ (P.act r _).2.client ∧ (P.act r _).2.client < 256
              rw [ha.2.1]; omega
            · show 0 ≤ (P.act r _).2.num ∧ (P.act r _).2.num ≤ _
              rw [ha.2.2.1]; omega
            · show 0 ≤ (P.act r _).1.epoch ∧ (P.act r _).1.epoch < 256
              have := ha.1.1; omega
          · rw [hans] at hm; exact h.ans a hm
        · rcases mem_putA hm with rfl | hm
          · show (P.act r _).2.client ≤ 2
            rw [ha.2.1]; omega
          · rw [hans] at hm; exact hl a hm
theorem sorted_len : ∀ (l : List Int) (lo hi : Int), l.Pairwise (fun a b => a < b) → (∀ x ∈ l, lo ≤ x ∧ x ≤ hi) → (l.length : Int) ≤ max 0 (hi - lo + 1)
  | [], lo, hi, _, _ => by simp; omega
  | a :: r, lo, hi, hs, hm => by
    have h1 := List.pairwise_cons.1 hs
    have ha := hm a (by simp)
    have := sorted_len r (a + 1) hi h1.2 (fun x hx => ⟨by have := h1.1 x hx; omega, (hm x (by simp [hx])).2⟩)
    rw [List.length_cons]
    push_cast
    omega
end Go.Proofs.YtmlmhnhilemjhaaDoor
