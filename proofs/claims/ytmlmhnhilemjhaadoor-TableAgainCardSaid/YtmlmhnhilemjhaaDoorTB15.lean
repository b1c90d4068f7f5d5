/-
  TABLE, 15: bytes in memory of their own (bytes.Clone), answers too (copied); is there a table.
-/
import Derived.Test.YtmlmhnhilemjhaaDoorTB14
import Derived.Laws.EntriesVeiled
namespace Go.Proofs.YtmlmhnhilemjhaaDoor
open Go.RowKit
set_option linter.unusedVariables false
set_option maxRecDepth 100000
set_option linter.unusedSimpArgs false

theorem run_equalIn_sb {P : Program} (w : World) (n : Nat) {t e : TypeId} (ht : P.underlying t = some (.slice e)) (A : Option Addr) (l c : Nat) :
    (Op.equalIn (n + 1) t (.slice A l c) (.slice none 0 0)).run P w = .ok A.isNone w := by
  cases A <;> simp [Op.equalIn, run_underlying ht]
theorem run_eql_sb {P : Program} (w : World) {t e : TypeId} (ht : P.underlying t = some (.slice e)) (A : Option Addr) (l c : Nat) :
    (binOp .eql t (.slice A l c) (.slice none 0 0)).run P w = .ok (.bool A.isNone) w := by
  simp only [binOp]
  simp [Op.equal, Op.maxDepth, run_equalIn_sb w 9999 ht]
theorem seen.empty {w : World} {g : Nat} {l : List UInt8} (h : seen w none g l) : l = [] := by
  cases l with
  | nil => rfl
  | cons x r => obtain ⟨o, ho, _⟩ := h (by simp); cases ho

/-- the value reads as l, in blocks that are new and hold bytes -/
def bytesN (l : List UInt8) (w w' : World) (v : Value) (G : List Nat) : Prop := bytesV w' G v l ∧ u8rows w' G ∧ (∀ y ∈ G, w.heap.size ≤ y ∧ y < w'.heap.size) ∧ keepBut [] w w'
theorem owns.bytes {w : World} {v : Value} {l : List UInt8} (h : owns w 5 1 v l.length (l.map bv)) : bytesV w (homes v) v l := by
  obtain ⟨A, c, g, e, h1, h2, h3, h4⟩ := h.seen
  exact ⟨A, c, g, e, h1, h2, h3, h4⟩
theorem owns.u8rows {w : World} {v : Value} {n : Nat} {xs : List Value} (h : owns w 5 1 v n xs) : u8rows w (homes v) := by
  rcases h.2 with ⟨rfl, _⟩ | ⟨g, cap, cur, rfl, hr, _⟩
  · intro y hy; simp [homes_none] at hy
  · intro y hy
    simp only [homes_some, List.mem_singleton] at hy
    subst hy
    exact ⟨cur, hr⟩
set_option maxHeartbeats 1000000 in
theorem cloneB_any (F : List Nat) (v : Value) (l : List UInt8) (w : World) (h : bytesV w F v l) (hl : l.length ≤ 1000000) :
    Calls Tryd.prog 25 #[v] w fun e w' => ∃ v' G, e = .returned v' ∧ bytesN l w w' v' G := by
  obtain ⟨A, c, g, rfl, h2, h3, h5, h6⟩ := h
  obtain ⟨i0, hi0, he⟩ := Option.map_eq_some_iff.1 infoU8c
  injection he with hz0 he
  injection he with hz1 hz2
  cases A with
  | none =>
    obtain rfl := h5.empty
    have hq := run_eql_sb (P := Tryd.prog) w Tryd.underlying29 none 0 c
    simp only [Option.isNone_none] at hq
    simp only [List.length_nil]
    go_enter Tryd.func25, Tryd.ntmps25
    go_wp2
    go_ret
    exact ⟨_, [], rfl, bytesV.nil _ _, fun y hy => by simp at hy, by simp, keepBut.refl _ _⟩
  | some a =>
    have h7 := (h5.keep ((keepBut.refl [] w).alloc (.cells #[] 5)) (by simp)).reads
    have ho : owns (w.alloc (.cells #[] 5)) 5 1 (.slice (some ⟨w.heap.size, 0, none⟩) 0 0) 0 [] := ⟨rfl, .inr ⟨w.heap.size, 0, #[], rfl, rowAt.new _ _ _, by omega, by simp [maxLen], rfl, rfl⟩⟩
    have H := Lib.hid (And.intro h7 (And.intro ho ((keepBut.refl [] w).alloc (.cells #[] 5))))
    have hq := run_eql_sb (P := Tryd.prog) w Tryd.underlying29 (some a) l.length c
    simp only [Option.isNone_some] at hq
    clear h5 h6 h7 ho h3
    go_enter Tryd.func25, Tryd.ntmps25
    go_wp2_with (at_builtin; refine wp_append _ rfl _ _ 29 rfl 5 i0 (.int .u8 0) 1 1 Tryd.underlying29 hi0 hz0 hz1 hz2 rfl (by decide) (.slice (some ⟨w.heap.size, 0, none⟩) 0 0) 0 [] rfl H.out.2.1 (some a) g l.length c _ (by simp [Act.eval]) H.out.1 (by intro u hu; simp at hu; obtain ⟨b, _, rfl⟩ := hu; rfl) (by omega) (by simp only [maxLen]; omega) ?_; intro A' c' w2 hown2 hkb2 hloc2)
    go_ret
    have hkk := H.out.2.2.then hkb2 (by simp [homes_some])
    simp only [Nat.zero_add, List.nil_append] at hown2 hloc2 ⊢
    refine ⟨_, _, rfl, hown2.bytes, hown2.u8rows, fun y hy => ⟨?_, hown2.lt y hy⟩, hkk⟩
    rcases hloc2 y hy with h | h
    · simp [homes_some] at h; omega
    · simp at h; omega
end Go.Proofs.YtmlmhnhilemjhaaDoor
