/-
  VIEW, 3: a row in memory of its own (bytes.Clone, copied); a list that grows (add); the last step; Add.
-/
import Derived.Test.YtjipokilidhnoaaView2
import Derived.Laws.EntriesVeiled
import Derived.Deep.RegionLaw
namespace Go.Proofs.Ytjipokilidhnoaa
open Go.RowKit
set_option linter.unusedVariables false
set_option maxRecDepth 100000

theorem run_equalIn_sb {P : Program} (w : World) (n : Nat) {t e : TypeId} (ht : P.underlying t = some (.slice e)) (A : Option Addr) (l c : Nat) :
    (Op.equalIn (n + 1) t (.slice A l c) (.slice none 0 0)).run P w = .ok A.isNone w := by
  cases A <;> simp [Op.equalIn, run_underlying ht]
theorem run_eql_sb {P : Program} (w : World) {t e : TypeId} (ht : P.underlying t = some (.slice e)) (A : Option Addr) (l c : Nat) :
    (binOp .eql t (.slice A l c) (.slice none 0 0)).run P w = .ok (.bool A.isNone) w := by
  simp only [binOp]
  simp [Op.equal, Op.maxDepth, run_equalIn_sb w 9999 ht]
/-- the bytes of a row, in memory of their own -/
def bytesNew (l : List UInt8) (w : World) (v : Value) (w' : World) : Prop := ∃ G, heldB w' G v l ∧ (∀ y ∈ G, w.heap.size ≤ y ∧ y < w'.heap.size) ∧ keepBut [] w w'
def cloneBPost (l : List UInt8) (w : World) (e : Ending) (w' : World) : Prop := ∃ v, e = .returned v ∧ bytesNew l w v w'
theorem seen.empty {w : World} {g : Nat} {l : List UInt8} (h : seen w none g l) : l = [] := by
  cases l with
  | nil => rfl
  | cons x r => obtain ⟨o, ho, _⟩ := h (by simp); cases ho
theorem owns.heldB {w : World} {v : Value} {l : List UInt8} (h : owns w 5 1 v l.length (l.map bv)) (hl : l.length ≤ 1000000) : heldB w (homes v) v l := by
  obtain ⟨A, c, g, e, h1, h2, h3, h4⟩ := h.seen
  exact ⟨A, c, g, e, h1, h2, hl, h3, h4⟩

set_option maxHeartbeats 1000000 in
theorem cloneB_any (F : List Nat) (v : Value) (l : List UInt8) (w : World) (h : heldB w F v l) :
    Calls Try.prog 59 #[v] w (cloneBPost l w) := by
  obtain ⟨A, c, g, rfl, h2, h3, h4, h5, h6⟩ := h
  obtain ⟨i0, hi0, hz0, hz1, hz2⟩ := info_parts infoU8
  cases A with
  | none =>
    obtain rfl := h5.empty
    have hq := run_eql_sb (P := Try.prog) w Try.underlying22 none 0 c
    simp only [Option.isNone_none] at hq
    simp only [List.length_nil]
    go_enter Try.func59, Try.ntmps59
    go_wp2
    go_ret
    exact ⟨_, rfl, [], heldB.nil _ _, by simp, keepBut.refl _ _⟩
  | some a =>
    have h7 := (h5.keep ((keepBut.refl [] w).alloc (.cells #[] 5)) (by simp)).reads
    have ho : owns (w.alloc (.cells #[] 5)) 5 1 (.slice (some ⟨w.heap.size, 0, none⟩) 0 0) 0 [] := ⟨rfl, .inr ⟨w.heap.size, 0, #[], rfl, rowAt.new _ _ _, by omega, by simp [maxLen], rfl, rfl⟩⟩
    have H := Lib.hid (And.intro h7 (And.intro ho ((keepBut.refl [] w).alloc (.cells #[] 5))))
    have hq := run_eql_sb (P := Try.prog) w Try.underlying22 (some a) l.length c
    simp only [Option.isNone_some] at hq
    clear h5 h6 h7 ho h3
    go_enter Try.func59, Try.ntmps59
    go_wp2_with (at_builtin; refine wp_append _ rfl _ _ 22 rfl 5 i0 (.int .u8 0) 1 1 Try.underlying22 hi0 hz0 hz1 hz2 rfl (by decide) (.slice (some ⟨w.heap.size, 0, none⟩) 0 0) 0 [] rfl H.out.2.1 (some a) g l.length c _ (by simp [Act.eval]) H.out.1 (by intro u hu; simp at hu; obtain ⟨b, _, rfl⟩ := hu; rfl) (by omega) (by unfold maxLen; omega) ?_; intro A2 c2 w2 hown2 hkb2 hloc2)
    go_ret
    have hkk := H.out.2.2.then hkb2 (by simp [homes_some])
    simp only [Nat.zero_add, List.nil_append] at hown2 hloc2 ⊢
    refine ⟨_, rfl, _, hown2.heldB h4, fun y hy => ⟨?_, ?_⟩, hkk⟩
    · rcases hloc2 y hy with h | h
      · simp [homes_some] at h; omega
      · simp at h; omega
    · obtain ⟨A3, c3, e3, _, _, h33, _⟩ := hown2.form
      exact h33 y hy

def rowPost (s nd kd : Int) (l : List UInt8) (w : World) (e : Ending) (w' : World) : Prop := ∃ A c, e = .returned (.agg #[.int .i64 s, .int .i64 nd, .int .i64 kd, .slice A l.length c]) ∧ bytesNew l w (.slice A l.length c) w'
set_option maxHeartbeats 1000000 in
theorem copiedR_any (F : List Nat) (s nd kd : Int) (l : List UInt8) (A : Option Addr) (cc : Nat) (w : World) (h : heldB w F (.slice A l.length cc) l) :
    Calls Try.prog 42 #[.agg #[.int .i64 s, .int .i64 nd, .int .i64 kd, .slice A l.length cc]] w (rowPost s nd kd l w) := by
  have hr0 := rowAt.new w 46 #[.int .i64 s, .int .i64 nd, .int .i64 kd, .slice A l.length cc]
  have hr1 := rowAt.new (w.alloc (.cells #[.int .i64 s, .int .i64 nd, .int .i64 kd, .slice A l.length cc] 46)) 46 #[.int .i64 0, .int .i64 0, .int .i64 0, .slice none 0 0]
  have hk0 := (keepBut.refl [] w).alloc (.cells #[.int .i64 s, .int .i64 nd, .int .i64 kd, .slice A l.length cc] 46)
  have hk1 := (keepBut.refl [] (w.alloc (.cells #[.int .i64 s, .int .i64 nd, .int .i64 kd, .slice A l.length cc] 46))).alloc (.cells #[.int .i64 0, .int .i64 0, .int .i64 0, .slice none 0 0] 46)
  have hr0' := hk1.row hr0 (by simp)
  have h' := (h.keep hk0 (by simp)).keep hk1 (by simp)
  have hk := hk0.then hk1 (by simp)
  rw [World.size_alloc] at hr1
  obtain ⟨w1, hW⟩ : ∃ w1, (w.alloc (.cells #[.int .i64 s, .int .i64 nd, .int .i64 kd, .slice A l.length cc] 46)).alloc (.cells #[.int .i64 0, .int .i64 0, .int .i64 0, .slice none 0 0] 46) = w1 := ⟨_, rfl⟩
  rw [hW] at hr1 hr0' h' hk
  have c3 : w1.cell? ⟨w.heap.size, 3, none⟩ = some (.slice A l.length cc) := hr0'.cell 3
  have H := Lib.hid (And.intro hr0' (And.intro hr1 (And.intro h' hk)))
  have HW := Lib.hid hW
  clear hr0 hr1 hk0 hk1 hr0' h' hk hW h
  go_enter Try.func42, Try.ntmps42
  go_upto_region 1 with fail
  rw [HW.out]
  go_wp2_with fail
  refine (cloneB_any F _ _ _ H.out.2.2.1).mono ?_; rintro e w2 ⟨v, rfl, G, ⟨A2, n2, g2, rfl, i2, i3, i4, i5, i6⟩, hG, hk2⟩
  have r0 := hk2.row H.out.1 (by simp)
  have r1 := hk2.row H.out.2.1 (by simp)
  have a0 : w2.cell? ⟨w.heap.size, 0, none⟩ = some (.int .i64 s) := r0.cell 0
  have a1 : w2.cell? ⟨w.heap.size, 1, none⟩ = some (.int .i64 nd) := r0.cell 1
  have a2 : w2.cell? ⟨w.heap.size, 2, none⟩ = some (.int .i64 kd) := r0.cell 2
  have a3 : w2.cell? ⟨w.heap.size, 3, none⟩ = some (.slice A l.length cc) := r0.cell 3
  have f3 : w2.frozen? ⟨w.heap.size, 3, none⟩ = false := r0.free 3
  have b0 : w2.cell? ⟨w.heap.size + 1, 0, none⟩ = some (.int .i64 0) := r1.cell 0
  have b1 : w2.cell? ⟨w.heap.size + 1, 1, none⟩ = some (.int .i64 0) := r1.cell 1
  have b2 : w2.cell? ⟨w.heap.size + 1, 2, none⟩ = some (.int .i64 0) := r1.cell 2
  have b3 : w2.cell? ⟨w.heap.size + 1, 3, none⟩ = some (.slice none 0 0) := r1.cell 3
  have e0 : w2.frozen? ⟨w.heap.size + 1, 0, none⟩ = false := r1.free 0
  have e1 : w2.frozen? ⟨w.heap.size + 1, 1, none⟩ = false := r1.free 1
  have e2 : w2.frozen? ⟨w.heap.size + 1, 2, none⟩ = false := r1.free 2
  have e3 : w2.frozen? ⟨w.heap.size + 1, 3, none⟩ = false := r1.free 3
  have H2 := Lib.hid (And.intro hG (And.intro hk2 (And.intro i2 (And.intro i3 (And.intro i4 (And.intro i5 i6))))))
  clear r0 r1 hG hk2 i2 i3 i4 i5 i6 c3
  go_wp2
  refine bodyPost_ret (v := .agg #[.int .i64 s, .int .i64 nd, .int .i64 kd, .slice A2 l.length n2]) (by simp [results, Try.results42, go_sem, *]) rfl ?_
  obtain ⟨hG, hk2, i2, i3, i4, i5, i6⟩ := H2.out
  have hs1 := H.out.2.1.lt
  have k4 := (((((keepBut.refl [w.heap.size, w.heap.size + 1] w2).setCell ⟨w.heap.size, 3, none⟩ (.slice A2 l.length n2) (by simp)).setCell ⟨w.heap.size + 1, 0, none⟩ (.int .i64 s) (by simp)).setCell ⟨w.heap.size + 1, 1, none⟩ (.int .i64 nd) (by simp)).setCell ⟨w.heap.size + 1, 2, none⟩ (.int .i64 kd) (by simp)).setCell ⟨w.heap.size + 1, 3, none⟩ (.slice A2 l.length n2) (by simp)
  have hh : heldB w2 G (.slice A2 l.length n2) l := ⟨A2, n2, g2, rfl, i2, i3, i4, i5, i6⟩
  have hkk := (H.out.2.2.2.then hk2 (by simp)).then k4 (by simp)
  refine ⟨_, _, rfl, G, hh.keep k4 (fun y hy hm => ?_), fun y hy => ⟨?_, Nat.lt_of_lt_of_le (hG y hy).2 k4.size⟩, hkk⟩
  · have := (hG y hy).1; simp at hm; omega
  · have := (hG y hy).1; omega
end Go.Proofs.Ytjipokilidhnoaa
