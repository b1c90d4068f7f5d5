/-
  SESS, 6: slices.Clone.
-/
import Derived.Test.YtkpmlcgbffdloaaDoorSess5
import Derived.Lib.Hide
namespace Go.Proofs.YtkpmlcgbffdloaaDoor
open Go.RowKit
set_option linter.unusedVariables false
set_option maxRecDepth 100000

def cloneIP (l : List Int) (w : World) (e : Ending) (w' : World) : Prop := ∃ v, e = .returned v ∧ ∃ G, intsV w' G v l ∧ newIn w w' G ∧ keepBut [] w w'
theorem homes_oneS (v : Value) : ∃ g, homes v = [] ∨ homes v = [g] := by
  unfold homes
  cases Value.ownBlock v with
  | none => exact ⟨0, .inl rfl⟩
  | some g => exact ⟨g, .inr rfl⟩
theorem run_equalIn_sl {P : Program} (w : World) (n : Nat) {t e : TypeId} (ht : P.underlying t = some (.slice e)) (A : Option Addr) (l c : Nat) :
    (Op.equalIn (n + 1) t (.slice A l c) (.slice none 0 0)).run P w = .ok A.isNone w := by
  cases A <;> simp [Op.equalIn, run_underlying ht]
theorem run_eql_sl {P : Program} (w : World) {t e : TypeId} (ht : P.underlying t = some (.slice e)) (A : Option Addr) (l c : Nat) :
    (binOp .eql t (.slice A l c) (.slice none 0 0)).run P w = .ok (.bool A.isNone) w := by
  simp only [binOp]
  simp [Op.equal, Op.maxDepth, run_equalIn_sl w 9999 ht]

set_option maxHeartbeats 1000000 in
theorem cloneI_any (F : List Nat) (v : Value) (l : List Int) (w : World) (h : intsV w F v l) (hn : l.length ≤ 1000000) :
    Calls Tryd.prog 47 #[v] w (cloneIP l w) := by
  obtain ⟨A, c, g, rfl, h2, h3, h5, h6⟩ := h
  have h4 := hn
  obtain ⟨i0, hi0, hz0, hz1, hz2⟩ := info_parts infoIntc
  cases A with
  | none =>
    have hl : l = [] := by
      cases l with
      | nil => rfl
      | cons x r => obtain ⟨o, ho, _⟩ := h5.2 (by simp); cases ho
    subst hl
    have hq := run_eql_sl (P := Tryd.prog) w Tryd.underlying32 none 0 c
    simp only [Option.isNone_none] at hq
    simp only [List.length_nil]
    go_enter Tryd.func47, Tryd.ntmps47
    go_wp2
    go_ret
    exact ⟨_, rfl, [], intsV.nil _ _, by simp [newIn], keepBut.refl _ _⟩
  | some a =>
    have h7 := h5.keepS ((keepBut.refl [] w).alloc (.cells #[] 3)) (by simp)
    have ho : owns (w.alloc (.cells #[] 3)) 3 1 (.slice (some ⟨w.heap.size, 0, none⟩) 0 0) 0 [] := ⟨rfl, .inr ⟨w.heap.size, 0, #[], rfl, rowAt.new _ _ _, by omega, by simp [maxLen], rfl, rfl⟩⟩
    have H := Lib.hid (And.intro h7 (And.intro ho ((keepBut.refl [] w).alloc (.cells #[] 3))))
    have hq := run_eql_sl (P := Tryd.prog) w Tryd.underlying32 (some a) l.length c
    simp only [Option.isNone_some] at hq
    clear h5 h6 h7 ho h3
    go_enter Tryd.func47, Tryd.ntmps47
    go_wp2_with (at_builtin; refine wp_append _ rfl _ _ 32 rfl 3 i0 (.int .i64 0) 1 8 Tryd.underlying32 hi0 hz0 hz1 hz2 rfl (by decide) (.slice (some ⟨w.heap.size, 0, none⟩) 0 0) 0 [] rfl H.out.2.1 (some a) g l.length c _ (by simp [Act.eval]) H.out.1 (by intro u hu; obtain ⟨b, _, rfl⟩ := List.mem_map.1 hu; rfl) (by omega) (by unfold maxLen; omega) ?_; intro A2 c2 w2 hown2 hkb2 hloc2)
    go_ret
    have hkk := H.out.2.2.then hkb2 (by simp [homes_some])
    simp only [Nat.zero_add, List.nil_append] at hown2 hloc2 ⊢
    obtain ⟨A3, c3, e3, h31, h32, h33, h34⟩ := hown2.form
    injection e3 with e3a e3b e3c
    subst e3a e3c
    obtain ⟨g3, hg3⟩ := homes_oneS (.slice A2 l.length c2)
    refine ⟨_, rfl, homes (.slice A2 l.length c2), ⟨A2, c2, g3, rfl, h31, h32, h34 g3 hg3, fun hne => ?_⟩, fun y hy => ⟨?_, h33 y hy⟩, hkk⟩
    · obtain ⟨o, hA, _⟩ := (h34 g3 hg3).2 (List.length_pos_iff.2 hne)
      rw [hA]; simp [homes_some]
    · rcases hloc2 y hy with h | h
      · simp [homes_some] at h; omega
      · simp at h; omega
def cloneBP (l : List UInt8) (w : World) (e : Ending) (w' : World) : Prop := ∃ v, e = .returned v ∧ ∃ G, bytesV w' G v l ∧ newIn w w' G ∧ keepBut [] w w'
set_option maxHeartbeats 1000000 in
theorem cloneB_any (F : List Nat) (v : Value) (l : List UInt8) (w : World) (h : bytesV w F v l) (hn : l.length ≤ 1000000) :
    Calls Tryd.prog 59 #[v] w (cloneBP l w) := by
  obtain ⟨A, c, g, rfl, h2, h3, h5, h6⟩ := h
  have h4 := hn
  obtain ⟨i0, hi0, hz0, hz1, hz2⟩ := info_parts infoU8c
  cases A with
  | none =>
    have hl : l = [] := by
      cases l with
      | nil => rfl
      | cons x r => obtain ⟨o, ho, _⟩ := h5 (by simp); cases ho
    subst hl
    have hq := run_eql_sl (P := Tryd.prog) w Tryd.underlying35 none 0 c
    simp only [Option.isNone_none] at hq
    simp only [List.length_nil]
    go_enter Tryd.func59, Tryd.ntmps59
    go_wp2
    go_ret
    exact ⟨_, rfl, [], bytesV.nil _ _, by simp [newIn], keepBut.refl _ _⟩
  | some a =>
    have h7 := h5.reads.keepS ((keepBut.refl [] w).alloc (.cells #[] 5)) (by simp)
    have ho : owns (w.alloc (.cells #[] 5)) 5 1 (.slice (some ⟨w.heap.size, 0, none⟩) 0 0) 0 [] := ⟨rfl, .inr ⟨w.heap.size, 0, #[], rfl, rowAt.new _ _ _, by omega, by simp [maxLen], rfl, rfl⟩⟩
    have H := Lib.hid (And.intro h7 (And.intro ho ((keepBut.refl [] w).alloc (.cells #[] 5))))
    have hq := run_eql_sl (P := Tryd.prog) w Tryd.underlying35 (some a) l.length c
    simp only [Option.isNone_some] at hq
    clear h5 h6 h7 ho h3
    go_enter Tryd.func59, Tryd.ntmps59
    go_wp2_with (at_builtin; refine wp_append _ rfl _ _ 35 rfl 5 i0 (.int .u8 0) 1 1 Tryd.underlying35 hi0 hz0 hz1 hz2 rfl (by decide) (.slice (some ⟨w.heap.size, 0, none⟩) 0 0) 0 [] rfl H.out.2.1 (some a) g l.length c _ (by simp [Act.eval]) H.out.1 (by intro u hu; obtain ⟨b, _, rfl⟩ := List.mem_map.1 hu; rfl) (by omega) (by unfold maxLen; omega) ?_; intro A2 c2 w2 hown2 hkb2 hloc2)
    go_ret
    have hkk := H.out.2.2.then hkb2 (by simp [homes_some])
    simp only [Nat.zero_add, List.nil_append] at hown2 hloc2 ⊢
    obtain ⟨A3, c3, e3, h31, h32, h33, h34⟩ := hown2.form
    injection e3 with e3a e3b e3c
    subst e3a e3c
    obtain ⟨g3, hg3⟩ := homes_oneS (.slice A2 l.length c2)
    refine ⟨_, rfl, homes (.slice A2 l.length c2), ⟨A2, c2, g3, rfl, h31, h32, (fun hl => by obtain ⟨o, hA, hlt, hc⟩ := (h34 g3 hg3).2 (List.length_pos_iff.2 hl); exact ⟨o, hA, hlt, fun j b hb => hc j (bv b) (by simp [hb])⟩), fun hne => ?_⟩, fun y hy => ⟨?_, h33 y hy⟩, hkk⟩
    · obtain ⟨o, hA, _⟩ := (h34 g3 hg3).2 (List.length_pos_iff.2 hne)
      rw [hA]; simp [homes_some]
    · rcases hloc2 y hy with h | h
      · simp [homes_some] at h; omega
      · simp at h; omega
end Go.Proofs.YtkpmlcgbffdloaaDoor
