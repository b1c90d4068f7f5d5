/-
  LEAD, 7: votes that come in; Promise.
-/
import Derived.Test.YtbjonlfjfjlelaaLead4
namespace Go.Proofs.Ytbjonlfjfjlelaa
open Go.RowKit
set_option linter.unusedVariables false
set_option maxRecDepth 100000

/-- the value v is a slice that reads as these votes; their chains lie in G, the votes in block g -/
def votesV (w : World) (G : List Nat) (v : Value) (l : List VS) : Prop :=
  ∃ (A : Option Addr) (c : Nat), v = .slice A l.length c ∧ l.length ≤ c ∧ c ≤ maxLen ∧ l.length ≤ 1000000 ∧
    (l ≠ [] → ∃ g o, A = some ⟨g, o, none⟩ ∧ g < w.heap.size ∧ g ∈ G ∧ ∀ i d, l[i]? = some d → ∃ cv, held w G cv d.c.chain ∧
      w.cell? ⟨g, o + i * 4, none⟩ = some (.int .i64 d.bal) ∧ w.cell? ⟨g, o + i * 4 + 1, none⟩ = some (.int .i64 d.c.num) ∧ w.cell? ⟨g, o + i * 4 + 2, none⟩ = some (.int .i64 d.c.full) ∧ w.cell? ⟨g, o + i * 4 + 3, none⟩ = some cv)
theorem votesV.nil (w : World) (G : List Nat) : votesV w G (.slice none 0 0) [] := ⟨none, 0, rfl, by simp, by simp [maxLen], by simp, fun h => absurd rfl h⟩
theorem votesV.keep {S G : List Nat} {w w' : World} {v : Value} {l : List VS} (h : votesV w G v l) (hk : keepBut S w w') (hS : ∀ y ∈ G, y ∉ S) : votesV w' G v l := by
  obtain ⟨A, c, h1, h2, h3, h4, h5⟩ := h
  refine ⟨A, c, h1, h2, h3, h4, fun hl => ?_⟩
  obtain ⟨g, o, e1, e2, e3, e4⟩ := h5 hl
  refine ⟨g, o, e1, Nat.lt_of_lt_of_le e2 hk.size, e3, fun i d hd => ?_⟩
  obtain ⟨cv, q1, q2, q3, q4, q5⟩ := e4 i d hd
  exact ⟨cv, q1.keep hk hS, (hk.cell (p := ⟨g, o + i * 4, none⟩) e2 (hS g e3)).trans q2, (hk.cell (p := ⟨g, o + i * 4 + 1, none⟩) e2 (hS g e3)).trans q3,
    (hk.cell (p := ⟨g, o + i * 4 + 2, none⟩) e2 (hS g e3)).trans q4, (hk.cell (p := ⟨g, o + i * 4 + 3, none⟩) e2 (hS g e3)).trans q5⟩

def LS.binds (s : LS) (l : List VS) : LS := l.foldl LS.bind s
theorem LS.bind_same (s : LS) (v : VS) : (s.bind v).id = s.id ∧ (s.bind v).ph = s.ph ∧ (s.bind v).bal = s.bal ∧ (s.bind v).frm = s.frm ∧ (s.bind v).prom = s.prom ∧ (s.bind v).pend = s.pend ∧ (s.bind v).prop = s.prop ∧ (s.bind v).acc = s.acc := by
  unfold LS.bind
  split
  · simp
  · split
    · split <;> simp
    · simp
theorem LS.binds_same (l : List VS) : ∀ s : LS, (s.binds l).id = s.id ∧ (s.binds l).ph = s.ph ∧ (s.binds l).bal = s.bal ∧ (s.binds l).frm = s.frm ∧ (s.binds l).prom = s.prom ∧ (s.binds l).pend = s.pend ∧ (s.binds l).prop = s.prop ∧ (s.binds l).acc = s.acc := by
  induction l with
  | nil => intro s; simp [LS.binds]
  | cons v r ih =>
    intro s
    have h1 := ih (s.bind v)
    have h2 := s.bind_same v
    have e : s.binds (v :: r) = (s.bind v).binds r := rfl
    rw [e]
    obtain ⟨a1, a2, a3, a4, a5, a6, a7, a8⟩ := h1
    obtain ⟨b1, b2, b3, b4, b5, b6, b7, b8⟩ := h2
    exact ⟨a1.trans b1, a2.trans b2, a3.trans b3, a4.trans b4, a5.trans b5, a6.trans b6, a7.trans b7, a8.trans b8⟩
theorem binds_take (s : LS) (l : List VS) (i : Nat) (v : VS) (h : l[i]? = some v) : (s.binds (l.take i)).bind v = s.binds (l.take (i + 1)) := by
  unfold LS.binds
  rw [List.take_add_one, h]
  simp [List.foldl_append]

/-- the answer, the error, what the leader is then -/
def LS.promise (s : LS) (who : Nat) (ballot : Int) (l : List VS) : Bool × Int × LS :=
  if s.ph ≠ 1 ∨ ballot ≠ s.bal then (false, 170, s) else
  let t := LS.binds { s with prom := orB s.prom who } l
  if 2 ≤ countOf t.prom then (true, 0, { t with ph := 2 }) else (false, 0, t)
def pPost (p : Nat) (F : List Nat) (s' : LS) (v : Value) (w : World) (e : Ending) (w' : World) : Prop := e = .returned v ∧ lPost p F s' w w'

theorem lPost.trans {p : Nat} {F F' : List Nat} {s2 : LS} {w w1 w2 : World} (hk : keepBut F w w1) (hF : ∀ y ∈ F', y ∈ F ∨ w.heap.size ≤ y) (h : lPost p F' s2 w1 w2) : lPost p F s2 w w2 := by
  obtain ⟨F2, i2, k2, f2⟩ := h
  refine ⟨F2, i2, hk.then k2 hF, fun y hy => ?_⟩
  rcases f2 y hy with h1 | h1
  · exact hF y h1
  · exact .inr (Nat.le_trans hk.size h1)
def promRel (p : Nat) (F : List Nat) (s : LS) (l : List VS) (w : World) (v40 : Value) (wx : World) : Prop :=
  ∃ i : Nat, i ≤ l.length ∧ v40 = .int .i64 (i : Int) ∧ lPost p F (s.binds (l.take i)) w wx

set_option maxHeartbeats 2000000 in
theorem promise_no (p : Nat) (F : List Nat) (s : LS) (who : Int) (ballot : Int) (v : Value) (w : World) (h : isL w p F s) (hw : who < 0 ∨ 3 ≤ who) (A : Option Addr) (n c : Nat) (hv : v = .slice A n c) :
    Calls Try.prog 43 #[.pointer (some ⟨p, 0, none⟩), .int .i64 who, .int .i64 ballot, v] w fun e w' => e = .returned (.tuple #[.bool false, .int .i64 9]) ∧ w = w' := by
  subst hv
  go_enter Try.func43, Try.ntmps43
  go_wp2_with (first | (go_at_call 72; refine (noneL_any _ _ _ _ h).mono ?_; rintro e w' ⟨rfl, rfl⟩) | (go_at_call 63; refine (isMaster_no who _ hw).mono ?_; rintro e w' ⟨rfl, rfl⟩))
  go_ret2
  exact ⟨rfl, rfl⟩
set_option maxHeartbeats 2000000 in
theorem promise_state (p : Nat) (F : List Nat) (s : LS) (who : Int) (ballot : Int) (v : Value) (w : World) (h : isL w p F s) (hw : 0 ≤ who) (hw2 : who < 3) (A : Option Addr) (n c : Nat) (hv : v = .slice A n c) (hst : s.ph ≠ 1 ∨ ballot ≠ s.bal) :
    Calls Try.prog 43 #[.pointer (some ⟨p, 0, none⟩), .int .i64 who, .int .i64 ballot, v] w fun e w' => e = .returned (.tuple #[.bool false, .int .i64 170]) ∧ w = w' := by
  subst hv
  obtain ⟨g, cv, ents, C, h1, h2⟩ := id h
  have c2 : w.cell? ⟨p, 2, none⟩ = some (.int .i64 s.ph) := h1.cell 2
  have c3 : w.cell? ⟨p, 3, none⟩ = some (.int .i64 s.bal) := h1.cell 3
  clear h1 h2
  by_cases hp : s.ph = 1
  · have hb : ballot ≠ s.bal := by rcases hst with h | h; exact absurd hp h; exact h
    have t1 : (ballot == s.bal) = false := by simpa using hb
    have t2 : (ballot != s.bal) = true := by simpa using hb
    rw [hp] at c2
    clear hp hb hst
    go_enter Try.func43, Try.ntmps43
    go_wp2_with (first | (go_at_call 72; refine (noneL_any _ _ _ _ h).mono ?_; rintro e w' ⟨rfl, rfl⟩) | (go_at_call 63; refine (isMaster_yes who _ hw hw2).mono ?_; rintro e w' ⟨rfl, rfl⟩))
    go_ret2
    exact ⟨rfl, rfl⟩
  · have t1 : (s.ph == 1) = false := by simpa using hp
    have t2 : (s.ph != 1) = true := by simpa using hp
    clear hp hst
    go_enter Try.func43, Try.ntmps43
    go_wp2_with (first | (go_at_call 72; refine (noneL_any _ _ _ _ h).mono ?_; rintro e w' ⟨rfl, rfl⟩) | (go_at_call 63; refine (isMaster_yes who _ hw hw2).mono ?_; rintro e w' ⟨rfl, rfl⟩))
    go_ret2
    exact ⟨rfl, rfl⟩
end Go.Proofs.Ytbjonlfjfjlelaa
