/-
  SESSPLAYS, 14: the document's session apart from blocks, and beside the program's.
-/
import Derived.Test.YtkpmlcgbffdloaaDoorSP11
import Derived.Test.YtkpmlcgbffdloaaDoorSP7
import Derived.Test.YtkpmlcgbffdloaaDoorSP9
import Derived.Test.YtkpmlcgbffdloaaDoorSess22
namespace Go.Proofs.YtkpmlcgbffdloaaDoor
open Go.RowKit
set_option linter.unusedVariables false
set_option maxRecDepth 100000
set_option linter.unusedSimpArgs false

/-- the document's session, apart from the blocks N -/
structure mOn (N : List Nat) (w : World) (m : Nat) (s : SS) : Prop where
  is : ∃ cv ev F, isM w m s cv ev F ∧ ∀ y ∈ F, y ∉ N
  fit : s.fit
  here : m ∉ N
  old : ∀ y ∈ N, y < w.heap.size
section
variable {N : List Nat} {w w' : World} {m : Nat} {s : SS}
theorem mOn.keep {S : List Nat} (h : mOn N w m s) (hk : keepBut S w w') (hS : ∀ y ∈ S, y ∈ N) : mOn N w' m s := by
  obtain ⟨cv, ev, F, h1, h2⟩ := h.is
  exact ⟨⟨cv, ev, F, h1.keep hk (fun hm => h.here (hS _ hm)) (fun y hy hm => h2 y hy (hS _ hm)), h2⟩, h.fit, h.here, fun y hy => Nat.lt_of_lt_of_le (h.old y hy) hk.size⟩
theorem mOn.over (h : mOn N w m s) (hk : keepBut [] w w') : mOn N w' m s := h.keep hk (by simp)
theorem mOn.lt (h : mOn N w m s) : m < w.heap.size := by
  obtain ⟨cv, ev, F, h1, h2⟩ := h.is
  exact h1.row.lt
theorem mOn.less {M : List Nat} (h : mOn N w m s) (hM : ∀ y ∈ M, y ∈ N) : mOn M w m s := by
  obtain ⟨cv, ev, F, h1, h2⟩ := h.is
  exact ⟨⟨cv, ev, F, h1, fun y hy hm => h2 y hy (hM y hm)⟩, h.fit, fun hm => h.here (hM _ hm), fun y hy => h.old y (hM y hy)⟩
theorem mOn.also (h : mOn N w m s) {M : List Nat} {w1 : World} (hk : keepBut [] w w1) (hM : newIn w w1 M) : mOn (N ++ M) w1 m s := by
  obtain ⟨cv, ev, F, h1, h2⟩ := h.is
  refine ⟨⟨cv, ev, F, h1.over hk, fun y hy hm => ?_⟩, h.fit, fun hm => ?_, fun y hy => ?_⟩
  · rcases List.mem_append.1 hm with hm | hm
    · exact h2 y hy hm
    · have a := (h1.far y hy).1
      have b := (hM y hm).1
      omega
  · rcases List.mem_append.1 hm with hm | hm
    · exact h.here hm
    · have a := h1.row.lt
      have b := (hM _ hm).1
      omega
  · rcases List.mem_append.1 hy with hy | hy
    · exact Nat.lt_of_lt_of_le (h.old y hy) hk.size
    · exact (hM y hy).2
theorem sOn.less {M : List Nat} {p q : Nat} (h : sOn N w p q s) (hM : ∀ y ∈ M, y ∈ N) : sOn M w p q s := by
  obtain ⟨cv, ev, F, h1, h2⟩ := h.is
  exact ⟨⟨cv, ev, F, h1, fun y hy hm => h2 y hy (hM y hm)⟩, h.fit, ⟨fun hm => h.here.1 (hM _ hm), fun hm => h.here.2 (hM _ hm)⟩, fun y hy => h.old y (hM y hy)⟩
def askMOn (N : List Nat) (w : World) (m : Nat) (a : (Int × Int) × SS) (e : Ending) (w' : World) : Prop :=
  e = .returned (.tuple #[.int .i64 a.1.1, .int .i64 a.1.2]) ∧ mOn N w' m a.2 ∧ keepBut [m] w w'
theorem mOn.ask (h : mOn N w m s) {G : List Nat} {r : RQ} {rv : Value} (hr : rqV w G r rv) :
    Calls Tryd.prog 29 #[.pointer (some ⟨m, 0, none⟩), .agg (rqL r rv).toArray] w (askMOn N w m (s.askP r)) := by
  obtain ⟨cv, ev, F, h1, h2⟩ := h.is
  refine (askM_any m s cv ev F r rv w h1 G hr h.fit.next).mono ?_
  rintro e w' ⟨rfl, ev', G', a1, a2, a3⟩
  exact ⟨rfl, ⟨⟨cv, ev', F ++ G', a1, farN h2 h.old a2⟩, h.fit.ask r, h.here, fun y hy => Nat.lt_of_lt_of_le (h.old y hy) a3.size⟩, a3⟩
def tickMOn (N : List Nat) (w : World) (m : Nat) (a : List PK × SS) (e : Ending) (w' : World) : Prop :=
  ∃ v D K, e = .returned v ∧ sentV w w' v a.1 D K ∧ mOn N w' m a.2 ∧ keepBut [m] w w'
theorem mOn.tick (h : mOn N w m s) : Calls Tryd.prog 30 #[.pointer (some ⟨m, 0, none⟩)] w (tickMOn N w m s.tickP) := by
  obtain ⟨cv, ev, F, h1, h2⟩ := h.is
  have hc : Calls Tryd.prog 30 #[.pointer (some ⟨m, 0, none⟩)] w (tickMPost m s.tickP cv ev F w) := by
    cases hw : s.waits with
    | false =>
      have := tickM_none m s cv ev F w h1 hw
      unfold SS.tickP
      rw [if_pos hw]
      exact this
    | true => exact tickM_any m s cv ev F w h1 h.fit.client h.fit.limit ⟨h.fit.tick.1, Int.le_trans (h.fit.tick.2 hw) h.fit.most.2⟩ h.fit.env
  refine hc.mono ?_
  rintro e w' ⟨v, D, K, rfl, a⟩
  exact ⟨v, D, K, rfl, ⟨a.ps, a.own, a.its, a.newK, a.newV⟩, ⟨⟨cv, ev, F, a.is, h2⟩, h.fit.ticked, h.here, fun y hy => Nat.lt_of_lt_of_le (h.old y hy) a.kept.size⟩, a.kept⟩
def takeMOn (N : List Nat) (w : World) (m : Nat) (x : (AN × Bool) × SS) (e : Ending) (w' : World) : Prop :=
  ∃ av G, e = .returned (.tuple #[.agg (anL x.1.1 av).toArray, .bool x.1.2]) ∧ anV w' G x.1.1 av ∧ newIn w w' G ∧ mOn N w' m x.2 ∧ keepBut [m] w w'
theorem mOn.take (h : mOn N w m s) {G : List Nat} {x : PK} {xe xa xc xv xb : Value} (hx : pkV w G x xe xa xc xv xb) (hGp : ∀ y ∈ G, y ≠ m) (hl : x.ans.env.length ≤ 1000000) (hl2 : x.conf.chain.length ≤ 1000000) :
    Calls Tryd.prog 35 #[.pointer (some ⟨m, 0, none⟩), .agg (pkL x xe xa xc xv xb).toArray] w (takeMOn N w m (s.takeP x)) := by
  obtain ⟨cv, ev, F, h1, h2⟩ := h.is
  refine (takeM_any m s cv ev F x xe xa xc xv xb w h1 h.fit.client G hx hGp hl hl2).mono ?_
  rintro e w' ⟨av, G1, cv', G', rfl, a1, a2, a3, a4, a5⟩
  exact ⟨av, G1, rfl, a1, a2, ⟨⟨cv', ev, F ++ G', a3, farN h2 h.old a4⟩, h.fit.take x hl2, h.here, fun y hy => Nat.lt_of_lt_of_le (h.old y hy) a5.size⟩, a5⟩
theorem mOn.conf (h : mOn N w m s) : Calls Tryd.prog 37 #[.pointer (some ⟨m, 0, none⟩)] w (confQPost s w) := by
  obtain ⟨cv, ev, F, h1, h2⟩ := h.is
  exact confM_any m s cv ev F w h1 h.fit.chain
theorem mOn.waits (h : mOn N w m s) : Calls Tryd.prog 38 #[.pointer (some ⟨m, 0, none⟩)] w fun e w' => e = .returned (.bool s.waits) ∧ w = w' := by
  obtain ⟨cv, ev, F, h1, h2⟩ := h.is
  exact waitsM_any m s cv ev F w h1
theorem mOn.late (h : mOn N w m s) : Calls Tryd.prog 39 #[.pointer (some ⟨m, 0, none⟩)] w fun e w' => e = .returned (.bool s.late) ∧ w = w' := by
  obtain ⟨cv, ev, F, h1, h2⟩ := h.is
  exact lateM_any m s cv ev F w h1
theorem mOn.num (h : mOn N w m s) : Calls Tryd.prog 40 #[.pointer (some ⟨m, 0, none⟩)] w fun e w' => e = .returned (.int .i64 s.last) ∧ w = w' := by
  obtain ⟨cv, ev, F, h1, h2⟩ := h.is
  exact numM_any m s cv ev F w h1
/-- the program's Tick: what it sends is apart from it -/
def tickOnK (N : List Nat) (w : World) (p q : Nat) (a : List PK × SS) (e : Ending) (w' : World) : Prop :=
  ∃ v D K, e = .returned v ∧ sentV w w' v a.1 D K ∧ sOn (N ++ K) w' p q a.2 ∧ keepBut [p, q] w w' ∧ ∀ y ∈ K, y ∉ homes v
theorem sOn.tickK {p q : Nat} (h : sOn N w p q s) : Calls Tryd.prog 24 #[.pointer (some ⟨p, 0, none⟩)] w (tickOnK N w p q s.tickP) := by
  obtain ⟨cv, ev, F, h1, h2⟩ := h.is
  have hc : Calls Tryd.prog 24 #[.pointer (some ⟨p, 0, none⟩)] w (tickPost p q s.tickP cv ev F w) := by
    cases hw : s.waits with
    | false =>
      have := tickQ_none p q s cv ev F w h1 hw
      unfold SS.tickP
      rw [if_pos hw]
      exact this
    | true => exact tickQ_any p q s cv ev F w h1 h.fit.client h.fit.limit ⟨h.fit.tick.1, Int.le_trans (h.fit.tick.2 hw) h.fit.most.2⟩ h.fit.env
  have hlt := h.lt
  refine hc.mono ?_
  rintro e w' ⟨v, D, K, rfl, a⟩
  refine ⟨v, D, K, rfl, ⟨a.ps, a.own, a.its, a.newK, a.newV⟩, ⟨⟨cv, ev, F, a.is, fun y hy hm => ?_⟩, h.fit.ticked, ⟨fun hm => ?_, fun hm => ?_⟩, fun y hy => ?_⟩, a.kept, a.apart⟩
  · rcases List.mem_append.1 hm with hm | hm
    · exact h2 y hy hm
    · have x1 := (h1.far y (by simp [hy])).1
      have x2 := (a.newK y hm).1
      omega
  · rcases List.mem_append.1 hm with hm | hm
    · exact h.here.1 hm
    · have x2 := (a.newK _ hm).1
      omega
  · rcases List.mem_append.1 hm with hm | hm
    · exact h.here.2 hm
    · have x2 := (a.newK _ hm).1
      omega
  · rcases List.mem_append.1 hy with hy | hy
    · exact Nat.lt_of_lt_of_le (h.old y hy) a.kept.size
    · exact (a.newK y hy).2
end
/-- both sessions, one beside the other, apart from the blocks N -/
structure both (N : List Nat) (w : World) (p q m : Nat) (s : SS) : Prop where
  on : sOn (m :: N) w p q s
  ref : mOn (p :: q :: N) w m s
section
variable {N : List Nat} {w w' : World} {p q m : Nat} {s : SS}
theorem both.keep {S : List Nat} (h : both N w p q m s) (hk : keepBut S w w') (hS : ∀ y ∈ S, y ∈ N) : both N w' p q m s :=
  ⟨h.on.keep hk (fun y hy => by simp [hS y hy]), h.ref.keep hk (fun y hy => by simp [hS y hy])⟩
theorem both.over (h : both N w p q m s) (hk : keepBut [] w w') : both N w' p q m s := h.keep hk (by simp)
theorem both.less {M : List Nat} (h : both N w p q m s) (hM : ∀ y ∈ M, y ∈ N) : both M w p q m s :=
  ⟨h.on.less (fun y hy => by rcases List.mem_cons.1 hy with rfl | hy; simp; simp [hM y hy]), h.ref.less (fun y hy => by simp only [List.mem_cons] at hy ⊢; rcases hy with hy | hy | hy; exact .inl hy; exact .inr (.inl hy); exact .inr (.inr (hM y hy)))⟩
theorem both.also (h : both N w p q m s) {M : List Nat} {w1 : World} (hk : keepBut [] w w1) (hM : newIn w w1 M) : both (N ++ M) w1 p q m s :=
  ⟨h.on.also hk hM, h.ref.also hk hM⟩
end
end Go.Proofs.YtkpmlcgbffdloaaDoor
