/-
  LEAD, 4: New, what it tells, withdraw, No, Start.
-/
import Derived.Test.YtbjonlfjfjlelaaLead1
namespace Go.Proofs.Ytbjonlfjfjlelaa
open Go.RowKit
set_option linter.unusedVariables false
set_option maxRecDepth 100000

def CS.zero : CS := ⟨0, 0, []⟩
def LS.new (id : Int) : LS := ⟨id, 0, 0, 0, 0, [], false, CS.zero, 0⟩
def newLPost (id : Int) (w : World) (e : Ending) (w' : World) : Prop :=
  ∃ p F, e = .returned (.tuple #[.pointer (some ⟨p, 0, none⟩), .int .i64 0]) ∧ isL w' p F (LS.new id) ∧ (∀ y ∈ F, w.heap.size ≤ y) ∧ keepBut [] w w'

set_option maxHeartbeats 1000000 in
theorem newL_any (id : Int) (w : World) (h0 : 0 ≤ id) (h1 : id < 3) : Calls Try.prog 27 #[.int .i64 id] w (newLPost id w) := by
  have hmm := fun w => run_makeMap (P := Try.prog) 97 w
  have e1 := mapAt.made w
  have hk1 := (keepBut.refl [] w).alloc (.map #[] 0)
  have hr := rowAt.new (w.alloc (.map #[] 0)) 99 (rowL (LS.new id) w.heap.size (.slice none 0 0))
  have hk2 := (keepBut.refl [] (w.alloc (.map #[] 0))).alloc (.cells (rowL (LS.new id) w.heap.size (.slice none 0 0)) 99)
  have e2 := e1.keep hk2 (by simp)
  rw [World.size_alloc] at hr
  have H := Lib.hid (And.intro hr (And.intro e2 (hk1.then hk2 (by simp))))
  clear e1 hk1 hr hk2 e2
  go_enter Try.func27, Try.ntmps27
  go_wp2_with (go_at_call 63; refine (isMaster_yes id _ h0 h1).mono ?_; rintro e w' ⟨rfl, rfl⟩)
  go_ret2
  obtain ⟨a1, a2, a3⟩ := H.out
  refine ⟨w.heap.size + 1, [w.heap.size + 1, w.heap.size], rfl, ⟨w.heap.size, .slice none 0 0, [], [], a1, a2, trivial, held.nil _ _, by simp, by simp, by simp, by simp, by simp, ?_⟩, by simp, a3⟩
  have b1 := a1.lt
  intro y hy
  have hy2 : y ≤ w.heap.size + 1 := by simp at hy; omega
  exact Nat.lt_of_le_of_lt hy2 b1
theorem newL_no (id : Int) (w : World) (h : id < 0 ∨ 3 ≤ id) : Calls Try.prog 27 #[.int .i64 id] w fun e w' => e = .returned (.tuple #[.pointer none, .int .i64 2]) ∧ w = w' := by
  go_enter Try.func27, Try.ntmps27
  go_wp2_with (go_at_call 63; refine (isMaster_no id _ h).mono ?_; rintro e w' ⟨rfl, rfl⟩)
  go_ret2
  exact ⟨rfl, rfl⟩

theorem phaseL_any (p : Nat) (F : List Nat) (s : LS) (w : World) (h : isL w p F s) :
    Calls Try.prog 32 #[.pointer (some ⟨p, 0, none⟩)] w fun e w' => e = .returned (.int .i64 s.ph) ∧ w = w' := by
  obtain ⟨g, cv, ents, C, h1, h2⟩ := id h
  have hc : w.cell? ⟨p, 2, none⟩ = some (.int .i64 s.ph) := h1.cell 2
  clear h1 h2
  go_enter Try.func32, Try.ntmps32
  go_wp2_with (go_at_call 72; refine (noneL_any _ _ _ _ h).mono ?_; rintro e w' ⟨rfl, rfl⟩)
  go_ret
  exact ⟨rfl, rfl⟩
theorem ballotL_any (p : Nat) (F : List Nat) (s : LS) (w : World) (h : isL w p F s) :
    Calls Try.prog 30 #[.pointer (some ⟨p, 0, none⟩)] w fun e w' => e = .returned (.int .i64 s.bal) ∧ w = w' := by
  obtain ⟨g, cv, ents, C, h1, h2⟩ := id h
  have hc : w.cell? ⟨p, 3, none⟩ = some (.int .i64 s.bal) := h1.cell 3
  clear h1 h2
  go_enter Try.func30, Try.ntmps30
  go_wp2_with (go_at_call 72; refine (noneL_any _ _ _ _ h).mono ?_; rintro e w' ⟨rfl, rfl⟩)
  go_ret
  exact ⟨rfl, rfl⟩
theorem fromL_any (p : Nat) (F : List Nat) (s : LS) (w : World) (h : isL w p F s) :
    Calls Try.prog 31 #[.pointer (some ⟨p, 0, none⟩)] w fun e w' => e = .returned (.int .i64 s.frm) ∧ w = w' := by
  obtain ⟨g, cv, ents, C, h1, h2⟩ := id h
  have hc : w.cell? ⟨p, 4, none⟩ = some (.int .i64 s.frm) := h1.cell 4
  clear h1 h2
  go_enter Try.func31, Try.ntmps31
  go_wp2_with (go_at_call 72; refine (noneL_any _ _ _ _ h).mono ?_; rintro e w' ⟨rfl, rfl⟩)
  go_ret
  exact ⟨rfl, rfl⟩

/-- a method that turns the leader's own cells -/
def wPost (p : Nat) (F : List Nat) (s' : LS) (v : Value) (w : World) (e : Ending) (w' : World) : Prop := e = .returned v ∧ isL w' p F s' ∧ keepBut [p] w w'
def LS.withdraw (s : LS) : LS := { s with pend := false, prop := CS.zero, acc := 0 }

set_option maxHeartbeats 1000000 in
theorem withdraw_any (p : Nat) (F : List Nat) (s : LS) (w : World) (h : isL w p F s) :
    Calls Try.prog 75 #[.pointer (some ⟨p, 0, none⟩)] w (wPost p F s.withdraw (.tuple #[]) w) := by
  obtain ⟨g, cv, ents, C, h1, h2, h3, h4, h5⟩ := id h
  obtain ⟨A, c, gg, rfl, h6⟩ := h4
  have c7 : w.cell? ⟨p, 7, none⟩ = some (.bool s.pend) := h1.cell 7
  have c8 : w.cell? ⟨p, 8, none⟩ = some (.int .i64 s.prop.num) := h1.cell 8
  have c9 : w.cell? ⟨p, 9, none⟩ = some (.int .i64 s.prop.full) := h1.cell 9
  have c10 : w.cell? ⟨p, 10, none⟩ = some (.slice A s.prop.chain.length c) := h1.cell 10
  have c11 : w.cell? ⟨p, 11, none⟩ = some (.int .u8 (s.acc : Int)) := h1.cell 11
  have f7 := h1.free 7
  have f8 := h1.free 8
  have f9 := h1.free 9
  have f10 := h1.free 10
  have f11 := h1.free 11
  clear h1 h2 h3 h5 h6
  have HH := Lib.hid h
  clear h
  go_enter Try.func75, Try.ntmps75
  go_wp2
  go_end0
  have hk := ((((((keepBut.refl [p] w).setCell ⟨p, 7, none⟩ (.bool false) (by simp)).setCell ⟨p, 8, none⟩ (.int .i64 0) (by simp)).setCell ⟨p, 9, none⟩ (.int .i64 0) (by simp)).setCell ⟨p, 10, none⟩ (.slice none 0 0) (by simp)).setCell ⟨p, 11, none⟩ (.int .u8 0) (by simp))
  refine ⟨rfl, HH.out.poke hk rfl (fun g cv hr => ⟨.slice none 0 0, ?_, .inr ⟨rfl, rfl⟩⟩), hk⟩
  have := ((((hr.set 7 (.bool false)).set 8 (.int .i64 0)).set 9 (.int .i64 0)).set 10 (.slice none 0 0)).set 11 (.int .u8 0)
  simpa [rowL, LS.withdraw, CS.zero] using this

def LS.no (s : LS) (b : Int) : Int × LS := if b ≤ s.bal ∨ s.ph = 0 then (170, s) else (0, { s.withdraw with ph := 0 })
set_option maxHeartbeats 1000000 in
theorem noL_any (p : Nat) (F : List Nat) (s : LS) (b : Int) (w : World) (h : isL w p F s) :
    Calls Try.prog 47 #[.pointer (some ⟨p, 0, none⟩), .int .i64 b] w (wPost p F (s.no b).2 (.int .i64 (s.no b).1) w) := by
  obtain ⟨g, cv, ents, C, h1, h2⟩ := id h
  have c3 : w.cell? ⟨p, 3, none⟩ = some (.int .i64 s.bal) := h1.cell 3
  have c2 : w.cell? ⟨p, 2, none⟩ = some (.int .i64 s.ph) := h1.cell 2
  have f2 := h1.free 2
  clear h1 h2
  by_cases hb : b ≤ s.bal
  · have HE := Lib.hid (show s.no b = (170, s) by simp [LS.no, hb])
    go_enter Try.func47, Try.ntmps47
    go_wp2_with (go_at_call 72; refine (noneL_any _ _ _ _ h).mono ?_; rintro e w' ⟨rfl, rfl⟩)
    go_ret
    rw [HE.out]
    exact ⟨rfl, h, keepBut.refl _ _⟩
  · by_cases hp : s.ph = 0
    · have HE := Lib.hid (show s.no b = (170, s) by simp [LS.no, hp])
      rw [hp] at c2
      clear hp
      go_enter Try.func47, Try.ntmps47
      go_wp2_with (go_at_call 72; refine (noneL_any _ _ _ _ h).mono ?_; rintro e w' ⟨rfl, rfl⟩)
      go_ret
      rw [HE.out]
      exact ⟨rfl, h, keepBut.refl _ _⟩
    · have HE := Lib.hid (show s.no b = (0, { s.withdraw with ph := 0 }) by simp [LS.no, hb, hp])
      have t0 : (s.ph == 0) = false := by simpa using hp
      have k1 := (keepBut.refl [p] w).setCell ⟨p, 2, none⟩ (.int .i64 0) (by simp)
      have h2 : isL (w.setCell ⟨p, 2, none⟩ (.int .i64 0)) p F { s with ph := 0 } := h.poke k1 rfl (fun g cv hr => ⟨cv, by have := hr.set 2 (.int .i64 0); simpa [rowL] using this, .inl ⟨rfl, rfl⟩⟩)
      have H := Lib.hid (And.intro h2 k1)
      clear h2 k1 hp
      go_enter Try.func47, Try.ntmps47
      go_wp2_with (first | (go_at_call 72; refine (noneL_any _ _ _ _ h).mono ?_; rintro e w' ⟨rfl, rfl⟩) | (go_at_call 75; refine (withdraw_any _ _ _ _ H.out.1).mono ?_; rintro e w' ⟨rfl, a1, a2⟩))
      go_ret
      rw [HE.out]
      exact ⟨rfl, a1, H.out.2.then a2 (by simp)⟩

/-- the ballot that comes next -/
def nextB (n id : Int) : Int := n + (id - n) % 3
theorem nextB_ok (n id : Int) (h0 : 0 ≤ id) (h1 : id < 3) : n ≤ nextB n id ∧ nextB n id ≤ n + 2 ∧ nextB n id % 3 = id := by
  unfold nextB
  omega
def LS.start (s : LS) (above frm : Int) : Int × Int × LS :=
  if above < 0 ∨ 9007199254740988 < above ∨ frm < 1 ∨ 9007199254740991 < frm then (0, 2, s)
  else (nextB (max above s.bal + 1) s.id, 0, ⟨s.id, 1, nextB (max above s.bal + 1) s.id, frm, 0, [], false, CS.zero, 0⟩)
def startPost (p : Nat) (F : List Nat) (s' : LS) (v : Value) (w : World) (e : Ending) (w' : World) : Prop := e = .returned v ∧ lPost p F s' w w'

theorem lPost.of_w {p : Nat} {F : List Nat} {s' : LS} {v : Value} {w w' : World} {e : Ending} (h : wPost p F s' v w e w') (hp : p ∈ F) : startPost p F s' v w e w' :=
  ⟨h.1, F, h.2.1, h.2.2.more (by simpa using hp), fun y hy => .inl hy⟩

set_option maxHeartbeats 1000000 in
theorem start_no (p : Nat) (F : List Nat) (s : LS) (above frm : Int) (w : World) (h : isL w p F s) (hb : above < 0 ∨ 9007199254740988 < above ∨ frm < 1 ∨ 9007199254740991 < frm) :
    Calls Try.prog 39 #[.pointer (some ⟨p, 0, none⟩), .int .i64 above, .int .i64 frm] w fun e w' => e = .returned (.tuple #[.int .i64 0, .int .i64 2]) ∧ w = w' := by
  have hcase : above < 0 ∨ (¬ above < 0 ∧ 9007199254740988 < above) ∨ (¬ above < 0 ∧ ¬ 9007199254740988 < above ∧ frm < 1) ∨ (¬ above < 0 ∧ ¬ 9007199254740988 < above ∧ ¬ frm < 1 ∧ 9007199254740991 < frm) := by omega
  clear hb
  rcases hcase with a1 | ⟨a1, a2⟩ | ⟨a1, a2, a3⟩ | ⟨a1, a2, a3, a4⟩
  all_goals
    go_enter Try.func39, Try.ntmps39
    go_wp2_with (go_at_call 72; refine (noneL_any _ _ _ _ h).mono ?_; rintro e w' ⟨rfl, rfl⟩)
    go_ret2
    exact ⟨rfl, rfl⟩
end Go.Proofs.Ytbjonlfjfjlelaa
