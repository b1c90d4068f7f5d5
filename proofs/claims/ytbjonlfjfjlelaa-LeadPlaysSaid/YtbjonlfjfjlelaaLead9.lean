/-
  LEAD, 11: Pending, Propose.
-/
import Derived.Test.YtbjonlfjfjlelaaLead8
namespace Go.Proofs.Ytbjonlfjfjlelaa
open Go.RowKit
set_option linter.unusedVariables false
set_option maxRecDepth 100000

set_option maxHeartbeats 2000000 in
theorem pending_no (p : Nat) (F : List Nat) (s : LS) (w : World) (h : isL w p F s) (hp : s.pend = false) :
    Calls Try.prog 33 #[.pointer (some ⟨p, 0, none⟩)] w (boundPost CS.zero false w) := by
  have k1 := (keepBut.refl [] w).alloc (.cells #[.int .i64 0, .int .i64 0, .slice none 0 0] 55)
  have r1 := rowAt.new w 55 #[.int .i64 0, .int .i64 0, .slice none 0 0]
  have h1 := h.over k1
  generalize hw1 : w.alloc (.cells #[.int .i64 0, .int .i64 0, .slice none 0 0] 55) = w1 at *
  have HW1 := Lib.hid hw1
  clear hw1
  obtain ⟨g, lcv, ents, C, l1, l2⟩ := id h1
  have c7 : w1.cell? ⟨p, 7, none⟩ = some (.bool s.pend) := l1.cell 7
  rw [hp] at c7
  have z0 : w1.cell? ⟨w.heap.size, 0, none⟩ = some (.int .i64 0) := r1.cell 0
  have z1 : w1.cell? ⟨w.heap.size, 1, none⟩ = some (.int .i64 0) := r1.cell 1
  have z2 : w1.cell? ⟨w.heap.size, 2, none⟩ = some (.slice none 0 0) := r1.cell 2
  have zf0 := r1.free 0
  have zf1 := r1.free 1
  have zf2 := r1.free 2
  have HH := Lib.hid (And.intro h1 (And.intro k1 r1.lt))
  clear l1 l2 h h1 k1 r1 hp
  go_enter Try.func33, Try.ntmps33
  go_upto_region 1 with fail
  rw [HW1.out]
  go_wp2_with (go_at_call 72; refine (noneL_any _ _ _ _ HH.out.1).mono ?_; rintro e w' ⟨rfl, rfl⟩)
  refine bodyPost_ret (v := .tuple #[.agg #[.int .i64 0, .int .i64 0, .slice none 0 0], .bool false]) (by simp [results, Try.results33, go_sem, *]) rfl ?_
  exact ⟨.slice none 0 0, rfl, conf_store (A := none) (n := 0) (g := 0) (G := []) (c := CS.zero) HH.out.2.1 HH.out.2.2 (held.nil _ _) (by simp) (keepBut.refl _ _)⟩

set_option maxHeartbeats 2000000 in
theorem pending_yes (p : Nat) (F : List Nat) (s : LS) (w : World) (h : isL w p F s) (hp : s.pend = true) :
    Calls Try.prog 33 #[.pointer (some ⟨p, 0, none⟩)] w (boundPost s.prop true w) := by
  have k1 := (keepBut.refl [] w).alloc (.cells #[.int .i64 0, .int .i64 0, .slice none 0 0] 55)
  have r1 := rowAt.new w 55 #[.int .i64 0, .int .i64 0, .slice none 0 0]
  have h1 := h.over k1
  generalize hw1 : w.alloc (.cells #[.int .i64 0, .int .i64 0, .slice none 0 0] 55) = w1 at *
  have HW1 := Lib.hid hw1
  clear hw1
  obtain ⟨g, lcv, ents, C, l1, l2, l3, l4, l5⟩ := id h1
  have l4' := l4
  obtain ⟨A2, c2, g2, rfl, q2⟩ := l4'
  have c7 : w1.cell? ⟨p, 7, none⟩ = some (.bool s.pend) := l1.cell 7
  have c8 : w1.cell? ⟨p, 8, none⟩ = some (.int .i64 s.prop.num) := l1.cell 8
  have c9 : w1.cell? ⟨p, 9, none⟩ = some (.int .i64 s.prop.full) := l1.cell 9
  have c10 : w1.cell? ⟨p, 10, none⟩ = some (.slice A2 s.prop.chain.length c2) := l1.cell 10
  rw [hp] at c7
  have HCP := Lib.hid (copiedL_any C s.prop (.slice A2 s.prop.chain.length c2) _ l4)
  unfold confV at HCP
  have HH := Lib.hid (And.intro h1 (And.intro k1 r1))
  clear l1 l2 l3 l4 l5 q2 h h1 k1 r1 hp
  go_enter Try.func33, Try.ntmps33
  go_upto_region 1 with fail
  rw [HW1.out]
  go_wp2_with (first | (go_at_call 72; refine (noneL_any _ _ _ _ HH.out.1).mono ?_; rintro e w' ⟨rfl, rfl⟩) | fail)
  refine HCP.out.mono ?_; rintro e w3 ⟨ccv, rfl, G5, ⟨A5, c5, g5, rfl, i52, i53, i54, i55, i56⟩, hG5, hk5⟩
  have r3 := hk5.row HH.out.2.2 (by simp)
  have z0 : w3.cell? ⟨w.heap.size, 0, none⟩ = some (.int .i64 0) := r3.cell 0
  have z1 : w3.cell? ⟨w.heap.size, 1, none⟩ = some (.int .i64 0) := r3.cell 1
  have z2 : w3.cell? ⟨w.heap.size, 2, none⟩ = some (.slice none 0 0) := r3.cell 2
  have zf0 := r3.free 0
  have zf1 := r3.free 1
  have zf2 := r3.free 2
  have HX := Lib.hid (And.intro (show held w3 G5 (.slice A5 s.prop.chain.length c5) s.prop.chain from ⟨A5, c5, g5, rfl, i52, i53, i54, i55, i56⟩) (And.intro hG5 hk5))
  clear r3 i52 i53 i54 i55 i56 hG5 hk5 c7 c8 c9 c10
  unfold confV
  go_wp2
  refine bodyPost_ret (v := .tuple #[.agg #[.int .i64 s.prop.num, .int .i64 s.prop.full, .slice A5 s.prop.chain.length c5], .bool true]) (by simp [results, Try.results33, go_sem, *]) rfl ?_
  exact ⟨_, rfl, conf_store (g := g5) HH.out.2.1 HH.out.2.2.lt HX.out.1 HX.out.2.1 HX.out.2.2⟩

/-- what is proposed, and what the leader is then -/
def LS.propOf (s : LS) (c : CS) : CS := match findV s.bound c.num with | none => c | some d => d.c
def LS.propose (s : LS) (c : CS) : Int × CS × LS :=
  if s.ph ≠ 2 ∨ s.pend = true then (170, CS.zero, s) else if c.num < s.frm then (2, CS.zero, s) else (0, s.propOf c, { s with pend := true, prop := s.propOf c })
def propPost (p : Nat) (F : List Nat) (s' : LS) (c : CS) (er : Int) (w : World) (e : Ending) (w' : World) : Prop :=
  ∃ cv F' G, e = .returned (.tuple #[confV c cv, .int .i64 er]) ∧ isL w' p F' s' ∧ keepBut F w w' ∧ (∀ y ∈ F', y ∈ F ∨ w.heap.size ≤ y) ∧ held w' G cv c.chain ∧ (∀ y ∈ G, w.heap.size ≤ y ∧ y < w'.heap.size ∧ y ∉ F')

set_option maxHeartbeats 2000000 in
theorem propose_no (p : Nat) (F : List Nat) (s : LS) (c : CS) (A : Option Addr) (n m : Nat) (w : World) (h : isL w p F s) (er : Int) (her : ((s.ph ≠ 2 ∨ s.pend = true) ∧ er = 170) ∨ (s.ph = 2 ∧ s.pend = false ∧ c.num < s.frm ∧ er = 2)) :
    Calls Try.prog 45 #[.pointer (some ⟨p, 0, none⟩), .agg #[.int .i64 c.num, .int .i64 c.full, .slice A n m]] w (propPost p F s CS.zero er w) := by
  have k0 := (keepBut.refl [] w).alloc (.cells #[.int .i64 c.num, .int .i64 c.full, .slice A n m] 55)
  have r0 := rowAt.new w 55 #[.int .i64 c.num, .int .i64 c.full, .slice A n m]
  generalize hw0 : w.alloc (.cells #[.int .i64 c.num, .int .i64 c.full, .slice A n m] 55) = w0 at *
  have k1 := (keepBut.refl [] w0).alloc (.cells #[.int .i64 0, .int .i64 0, .slice none 0 0] 55)
  have r1 := rowAt.new w0 55 #[.int .i64 0, .int .i64 0, .slice none 0 0]
  have r0' := k1.row r0 (by simp)
  have hsz : w0.heap.size = w.heap.size + 1 := by rw [← hw0]; simp
  rw [hsz] at r1
  have kk := k0.then k1 (by simp)
  have h1 := h.over kk
  have hw1 : (w.alloc (.cells #[.int .i64 c.num, .int .i64 c.full, .slice A n m] 55)).alloc (.cells #[.int .i64 0, .int .i64 0, .slice none 0 0] 55) = w0.alloc (.cells #[.int .i64 0, .int .i64 0, .slice none 0 0] 55) := by rw [hw0]
  generalize w0.alloc (.cells #[.int .i64 0, .int .i64 0, .slice none 0 0] 55) = w1 at *
  have HW1 := Lib.hid hw1
  obtain ⟨g, lcv, ents, C, l1, l2⟩ := id h1
  have c2 : w1.cell? ⟨p, 2, none⟩ = some (.int .i64 s.ph) := l1.cell 2
  have c4 : w1.cell? ⟨p, 4, none⟩ = some (.int .i64 s.frm) := l1.cell 4
  have c7 : w1.cell? ⟨p, 7, none⟩ = some (.bool s.pend) := l1.cell 7
  have b0 : w1.cell? ⟨w.heap.size, 0, none⟩ = some (.int .i64 c.num) := r0'.cell 0
  have z0 : w1.cell? ⟨w.heap.size + 1, 0, none⟩ = some (.int .i64 0) := r1.cell 0
  have z1 : w1.cell? ⟨w.heap.size + 1, 1, none⟩ = some (.int .i64 0) := r1.cell 1
  have z2 : w1.cell? ⟨w.heap.size + 1, 2, none⟩ = some (.slice none 0 0) := r1.cell 2
  have zf0 := r1.free 0
  have zf1 := r1.free 1
  have zf2 := r1.free 2
  have hlt1 := r1.lt
  have HH := Lib.hid (And.intro h1 (And.intro kk (And.intro hlt1 (And.intro h.lt h.mem))))
  clear l1 l2 h h1 kk k0 k1 r0 r1 r0' hw0 hw1 hsz hlt1
  have hend : propPost p F s CS.zero er w (.returned (.tuple #[.agg #[.int .i64 0, .int .i64 0, .slice none 0 0], .int .i64 er])) (((w1.setCell ⟨w.heap.size + 1, 0, none⟩ (.int .i64 0)).setCell ⟨w.heap.size + 1, 1, none⟩ (.int .i64 0)).setCell ⟨w.heap.size + 1, 2, none⟩ (.slice none 0 0)) := by
    have k3 := (((keepBut.refl [w.heap.size + 1] w1).setCell ⟨w.heap.size + 1, 0, none⟩ (.int .i64 0) (by simp)).setCell ⟨w.heap.size + 1, 1, none⟩ (.int .i64 0) (by simp)).setCell ⟨w.heap.size + 1, 2, none⟩ (.slice none 0 0) (by simp)
    exact ⟨.slice none 0 0, F, [], rfl, HH.out.1.keep k3 (fun y hy hm => by have := HH.out.2.2.2.1 y hy; have := List.mem_singleton.1 hm; omega), (HH.out.2.1.then k3 (by simp)).more (by simp), fun y hy => .inl hy, held.nil _ _, by simp⟩
  have hend2 : ∀ k, propPost p F s CS.zero er w (.returned (.tuple #[.agg #[.int .i64 0, .int .i64 0, .slice none 0 0], .int .i64 er])) ((((w1.drewN k).setCell ⟨w.heap.size + 1, 0, none⟩ (.int .i64 0)).setCell ⟨w.heap.size + 1, 1, none⟩ (.int .i64 0)).setCell ⟨w.heap.size + 1, 2, none⟩ (.slice none 0 0)) := by
    intro k
    have k3 := ((((keepBut.refl [w.heap.size + 1] w1).drewN k).setCell ⟨w.heap.size + 1, 0, none⟩ (.int .i64 0) (by simp)).setCell ⟨w.heap.size + 1, 1, none⟩ (.int .i64 0) (by simp)).setCell ⟨w.heap.size + 1, 2, none⟩ (.slice none 0 0) (by simp)
    exact ⟨.slice none 0 0, F, [], rfl, HH.out.1.keep k3 (fun y hy hm => by have := HH.out.2.2.2.1 y hy; have := List.mem_singleton.1 hm; omega), (HH.out.2.1.then k3 (by simp)).more (by simp), fun y hy => .inl hy, held.nil _ _, by simp⟩
  have HE := Lib.hid hend
  have HE2 := Lib.hid hend2
  clear hend hend2
  have hcs : (s.ph ≠ 2 ∧ er = 170) ∨ (s.ph = 2 ∧ s.pend = true ∧ er = 170) ∨ (s.ph = 2 ∧ s.pend = false ∧ c.num < s.frm ∧ er = 2) := by
    by_cases h1 : s.ph = 2
    · cases h2 : s.pend with
      | true => rcases her with ⟨_, e⟩ | ⟨_, e, _⟩; exact .inr (.inl ⟨h1, rfl, e⟩); rw [h2] at e; cases e
      | false => rcases her with ⟨e, _⟩ | ⟨_, _, e, e2⟩; (rcases e with e | e; exact absurd h1 e; rw [h2] at e; cases e); exact .inr (.inr ⟨h1, rfl, e, e2⟩)
    · rcases her with ⟨_, e⟩ | ⟨e, _⟩; exact .inl ⟨h1, e⟩; exact absurd e h1
  clear her
  rcases hcs with ⟨a1, rfl⟩ | ⟨a1, a2, rfl⟩ | ⟨a1, a2, a3, rfl⟩
  · have t1 : (s.ph == 2) = false := by simpa using a1
    have t2 : (s.ph != 2) = true := by simpa using a1
    clear a1
    go_enter Try.func45, Try.ntmps45
    go_upto_region 1 with fail
    rw [HW1.out]
    go_wp2_with (go_at_call 72; refine (noneL_any _ _ _ _ HH.out.1).mono ?_; rintro e w' ⟨rfl, rfl⟩)
    refine bodyPost_ret (v := .tuple #[.agg #[.int .i64 0, .int .i64 0, .slice none 0 0], .int .i64 170]) (by simp [results, Try.results45, go_sem, *]) rfl ?_
    exact HE.out
  · rw [a1] at c2
    rw [a2] at c7
    clear a1 a2
    go_enter Try.func45, Try.ntmps45
    go_upto_region 1 with fail
    rw [HW1.out]
    go_wp2_with (go_at_call 72; refine (noneL_any _ _ _ _ HH.out.1).mono ?_; rintro e w' ⟨rfl, rfl⟩)
    refine bodyPost_ret (v := .tuple #[.agg #[.int .i64 0, .int .i64 0, .slice none 0 0], .int .i64 170]) (by simp [results, Try.results45, go_sem, *]) rfl ?_
    exact HE.out
  · rw [a1] at c2
    rw [a2] at c7
    clear a1 a2
    go_enter Try.func45, Try.ntmps45
    go_upto_region 1 with fail
    rw [HW1.out]
    go_upto_region 5 with (go_at_call 72; refine (noneL_any _ _ _ _ HH.out.1).mono ?_; rintro e w' ⟨rfl, rfl⟩)
    go_quiet (fail)
    go_wp2
    refine bodyPost_ret (v := .tuple #[.agg #[.int .i64 0, .int .i64 0, .slice none 0 0], .int .i64 2]) (by simp [results, Try.results45, go_sem, *]) rfl ?_
    exact HE2.out _
end Go.Proofs.Ytbjonlfjfjlelaa
