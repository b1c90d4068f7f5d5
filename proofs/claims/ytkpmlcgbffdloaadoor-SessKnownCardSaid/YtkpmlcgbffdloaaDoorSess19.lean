/-
  SESS, 19: a session that stands, whatever its own memory is.
-/
import Derived.Test.YtkpmlcgbffdloaaDoorSess18
namespace Go.Proofs.YtkpmlcgbffdloaaDoor
open Go.RowKit
set_option linter.unusedVariables false
set_option maxRecDepth 100000

/-- the bounds that each session keeps -/
structure SS.fit (s : SS) : Prop where
  client : 0 ≤ s.client ∧ s.client ≤ 2
  limit : 1 ≤ s.limit ∧ s.limit ≤ 1000
  most : 1 ≤ s.most ∧ s.most ≤ 100000
  next : 1 ≤ s.next
  tick : 0 ≤ s.ticks ∧ (s.waits = true → s.ticks ≤ s.most)
  env : s.req.env.length ≤ 1000000
  chain : s.conf.chain.length ≤ 1000000
theorem fit_start {c f l m : Int} (hc : 0 ≤ c ∧ c ≤ 2) (hf : 1 ≤ f) (hl : 1 ≤ l ∧ l ≤ 1000) (hm : 1 ≤ m ∧ m ≤ 100000) : (SS.start c f l m).fit :=
  ⟨hc, hl, hm, hf, ⟨Int.le_refl _, fun h => by cases h⟩, by show (0 : Nat) ≤ 1000000; omega, by show (0 : Nat) ≤ 1000000; omega⟩
theorem took_eq (s : SS) (r : RQ) : s.took r = ⟨s.client, s.limit, s.most, s.next + 1, s.next, 0, true, false, false, r.as s.client s.next, s.conf⟩ := by
  obtain ⟨a, b, c, d, e, f, g, h, i, j, k⟩ := s
  simp only [SS.took, SS.setReq, SS.setWaits, SS.setLate, SS.setSent, SS.setTicks, SS.setLast, SS.setNext]
theorem fit_took {s : SS} (h : s.fit) (r : RQ) (hr : (r.as s.client s.next).env.length ≤ 1000000) : (s.took r).fit := by
  have h1 := h.next
  have h2 := h.most
  rw [took_eq]
  generalize r.as s.client s.next = q at *
  exact ⟨h.client, h.limit, h.most, by dsimp only; omega, ⟨by dsimp only; omega, fun _ => by dsimp only; omega⟩, hr, h.chain⟩
theorem SS.fit.ask {s : SS} (h : s.fit) (r : RQ) : (s.askP r).2.fit := by
  unfold SS.askP
  split
  · exact h
  · split
    · exact h
    · split
      · rename_i ht
        exact fit_took h r (tok_len ht)
      · exact h
theorem SS.fit.ticked {s : SS} (h : s.fit) : s.tickP.2.fit := by
  unfold SS.tickP
  split
  · exact h
  · rename_i hw
    have ht := h.tick
    split
    · exact ⟨h.client, h.limit, h.most, h.next, ⟨by show (0 : Int) ≤ s.ticks + 1; omega, fun hh => by cases hh⟩, h.env, h.chain⟩
    · exact ⟨h.client, h.limit, h.most, h.next, ⟨by show (0 : Int) ≤ s.ticks + 1; omega, fun _ => by show s.ticks + 1 ≤ s.most; omega⟩, h.env, h.chain⟩
theorem SS.fit.learn {s : SS} (h : s.fit) {c : CF} (hc : c.chain.length ≤ 1000000) : (s.learn c).fit := by
  unfold SS.learn
  split
  · exact ⟨h.client, h.limit, h.most, h.next, h.tick, h.env, hc⟩
  · exact h
theorem SS.fit.ans {s : SS} (h : s.fit) (a : AN) : (s.ansP a).2.fit := by
  unfold SS.ansP
  split
  · exact ⟨h.client, h.limit, h.most, h.next, ⟨h.tick.1, fun hh => by cases hh⟩, h.env, h.chain⟩
  · exact h
theorem SS.fit.take {s : SS} (h : s.fit) (p : PK) (hc : p.conf.chain.length ≤ 1000000) : (s.takeP p).2.fit := by
  unfold SS.takeP
  split
  · split
    · exact h.learn hc
    · split
      · exact h.ans _
      · exact h
  · exact h
/-- a session, apart from the blocks N -/
structure sOn (N : List Nat) (w : World) (p q : Nat) (s : SS) : Prop where
  is : ∃ cv ev F, isQ w p q s cv ev F [] [] ∧ ∀ y ∈ F, y ∉ N
  fit : s.fit
  here : p ∉ N ∧ q ∉ N
  old : ∀ y ∈ N, y < w.heap.size
section
variable {N : List Nat} {w w' : World} {p q : Nat} {s : SS}
theorem sOn.keep {S : List Nat} (h : sOn N w p q s) (hk : keepBut S w w') (hS : ∀ y ∈ S, y ∈ N) : sOn N w' p q s := by
  obtain ⟨cv, ev, F, h1, h2⟩ := h.is
  exact ⟨⟨cv, ev, F, h1.keep hk (fun hm => h.here.1 (hS _ hm)) (fun hm => h.here.2 (hS _ hm)) (fun y hy hm => h2 y hy (hS _ hm)) (by simp), h2⟩, h.fit, h.here, fun y hy => Nat.lt_of_lt_of_le (h.old y hy) hk.size⟩
theorem sOn.over (h : sOn N w p q s) (hk : keepBut [] w w') : sOn N w' p q s := h.keep hk (by simp)
theorem sOn.lt (h : sOn N w p q s) : p < w.heap.size ∧ q < w.heap.size := by
  obtain ⟨cv, ev, F, h1, h2⟩ := h.is
  exact ⟨h1.row.lt, h1.ch.lt⟩
/-- with more to be apart from: blocks that are new -/
theorem sOn.also (h : sOn N w p q s) {M : List Nat} {w1 : World} (hk : keepBut [] w w1) (hM : ∀ y ∈ M, w.heap.size ≤ y ∧ y < w1.heap.size) : sOn (N ++ M) w1 p q s := by
  obtain ⟨cv, ev, F, h1, h2⟩ := h.is
  refine ⟨⟨cv, ev, F, h1.over hk, fun y hy hm => ?_⟩, h.fit, ⟨fun hm => ?_, fun hm => ?_⟩, fun y hy => ?_⟩
  · rcases List.mem_append.1 hm with hm | hm
    · exact h2 y hy hm
    · have a := (h1.far y (by simp [hy])).1
      have b := (hM y hm).1
      omega
  · rcases List.mem_append.1 hm with hm | hm
    · exact h.here.1 hm
    · have a := h1.row.lt
      have b := (hM _ hm).1
      omega
  · rcases List.mem_append.1 hm with hm | hm
    · exact h.here.2 hm
    · have a := h1.ch.lt
      have b := (hM _ hm).1
      omega
  · rcases List.mem_append.1 hy with hy | hy
    · exact Nat.lt_of_lt_of_le (h.old y hy) hk.size
    · exact (hM y hy).2
theorem farN {F G : List Nat} (h : ∀ y ∈ F, y ∉ N) (hN : ∀ y ∈ N, y < w.heap.size) (hG : newIn w w' G) : ∀ y ∈ F ++ G, y ∉ N := fun y hy hm => by
  rcases List.mem_append.1 hy with hy | hy
  · exact h y hy hm
  · have a := (hG y hy).1
    have b := hN y hm
    omega
def askOn (N : List Nat) (w : World) (p q : Nat) (a : (Int × Int) × SS) (e : Ending) (w' : World) : Prop :=
  e = .returned (.tuple #[.int .i64 a.1.1, .int .i64 a.1.2]) ∧ sOn N w' p q a.2 ∧ keepBut [p] w w'
theorem sOn.ask (h : sOn N w p q s) {G : List Nat} {r : RQ} {rv : Value} (hr : rqV w G r rv) (hsz : sizesAt w) :
    Calls Tryd.prog 28 #[.pointer (some ⟨p, 0, none⟩), .agg (rqL r rv).toArray] w (askOn N w p q (s.askP r)) := by
  obtain ⟨cv, ev, F, h1, h2⟩ := h.is
  refine (askQ_any p q s cv ev F [] [] r rv w h1 G hr hsz h.fit.next).mono ?_
  rintro e w' ⟨rfl, ev', G', a1, a2, a3⟩
  exact ⟨rfl, ⟨⟨cv, ev', F ++ G', a1, farN h2 h.old a2⟩, h.fit.ask r, h.here, fun y hy => Nat.lt_of_lt_of_le (h.old y hy) a3.size⟩, a3⟩
/-- what a tick has sent: the value v reads as the packets L, in new blocks -/
structure sentV (w0 w : World) (v : Value) (L : List PK) (D : List (PK × List Value)) (K : List Nat) : Prop where
  ps : D.map (·.1) = L
  own : ownsO w 44 87 v D.length (flatP D)
  its : ∀ t ∈ D, itemV w K t
  newK : newIn w0 w K
  newV : ∀ x ∈ homes v, w0.heap.size ≤ x
def tickOn (N : List Nat) (w : World) (p q : Nat) (a : List PK × SS) (e : Ending) (w' : World) : Prop :=
  ∃ v D K, e = .returned v ∧ sentV w w' v a.1 D K ∧ sOn N w' p q a.2 ∧ keepBut [p, q] w w'
theorem sOn.tick (h : sOn N w p q s) : Calls Tryd.prog 24 #[.pointer (some ⟨p, 0, none⟩)] w (tickOn N w p q s.tickP) := by
  obtain ⟨cv, ev, F, h1, h2⟩ := h.is
  have hc : Calls Tryd.prog 24 #[.pointer (some ⟨p, 0, none⟩)] w (tickPost p q s.tickP cv ev F w) := by
    cases hw : s.waits with
    | false =>
      have := tickQ_none p q s cv ev F w h1 hw
      unfold SS.tickP
      rw [if_pos hw]
      exact this
    | true => exact tickQ_any p q s cv ev F w h1 h.fit.client h.fit.limit ⟨h.fit.tick.1, Int.le_trans (h.fit.tick.2 hw) h.fit.most.2⟩ h.fit.env
  refine hc.mono ?_
  rintro e w' ⟨v, D, K, rfl, a⟩
  exact ⟨v, D, K, rfl, ⟨a.ps, a.own, a.its, a.newK, a.newV⟩, ⟨⟨cv, ev, F, a.is, h2⟩, h.fit.ticked, h.here, fun y hy => Nat.lt_of_lt_of_le (h.old y hy) a.kept.size⟩, a.kept⟩
def takeOn (N : List Nat) (w : World) (p q : Nat) (x : (AN × Bool) × SS) (e : Ending) (w' : World) : Prop :=
  ∃ av G, e = .returned (.tuple #[.agg (anL x.1.1 av).toArray, .bool x.1.2]) ∧ anV w' G x.1.1 av ∧ newIn w w' G ∧ sOn N w' p q x.2 ∧ keepBut [p] w w'
theorem sOn.take (h : sOn N w p q s) {G : List Nat} {x : PK} {xe xa xc xv xb : Value} (hx : pkV w G x xe xa xc xv xb) (hGp : ∀ y ∈ G, y ≠ p) (hl : x.ans.env.length ≤ 1000000) (hl2 : x.conf.chain.length ≤ 1000000) :
    Calls Tryd.prog 17 #[.pointer (some ⟨p, 0, none⟩), .agg (pkL x xe xa xc xv xb).toArray] w (takeOn N w p q (s.takeP x)) := by
  obtain ⟨cv, ev, F, h1, h2⟩ := h.is
  refine (takeQ_any p q s cv ev F [] [] x xe xa xc xv xb w h1 h.fit.client G hx hGp hl hl2).mono ?_
  rintro e w' ⟨av, G1, cv', G', rfl, a1, a2, a3, a4, a5⟩
  exact ⟨av, G1, rfl, a1, a2, ⟨⟨cv', ev, F ++ G', a3, farN h2 h.old a4⟩, h.fit.take x hl2, h.here, fun y hy => Nat.lt_of_lt_of_le (h.old y hy) a5.size⟩, a5⟩
theorem sOn.conf (h : sOn N w p q s) : Calls Tryd.prog 22 #[.pointer (some ⟨p, 0, none⟩)] w (confQPost s w) := by
  obtain ⟨cv, ev, F, h1, h2⟩ := h.is
  exact confQ_any p q s cv ev F [] [] w h1 h.fit.chain
theorem sOn.waits (h : sOn N w p q s) : Calls Tryd.prog 18 #[.pointer (some ⟨p, 0, none⟩)] w fun e w' => e = .returned (.bool s.waits) ∧ w = w' := by
  obtain ⟨cv, ev, F, h1, h2⟩ := h.is
  exact waitsQ_any p q s cv ev F [] [] w h1
theorem sOn.late (h : sOn N w p q s) : Calls Tryd.prog 25 #[.pointer (some ⟨p, 0, none⟩)] w fun e w' => e = .returned (.bool s.late) ∧ w = w' := by
  obtain ⟨cv, ev, F, h1, h2⟩ := h.is
  exact lateQ_any p q s cv ev F [] [] w h1
theorem sOn.num (h : sOn N w p q s) : Calls Tryd.prog 15 #[.pointer (some ⟨p, 0, none⟩)] w fun e w' => e = .returned (.int .i64 s.last) ∧ w = w' := by
  obtain ⟨cv, ev, F, h1, h2⟩ := h.is
  exact numQ_any p q s cv ev F [] [] w h1
theorem new_on (N : List Nat) (c f l m : Int) (w : World) (hN : ∀ y ∈ N, y < w.heap.size) (hc : 0 ≤ c ∧ c ≤ 2) (hf : 1 ≤ f ∧ f ≤ 9007199254740991) (hl : 1 ≤ l ∧ l ≤ 1000) (hm : 1 ≤ m ∧ m ≤ 100000) :
    Calls Tryd.prog 9 #[.int .i64 c, .int .i64 f, .int .i64 l, .int .i64 m] w fun e w' => ∃ p q, e = .returned (.tuple #[.pointer (some ⟨p, 0, none⟩), .int .i64 0]) ∧ sOn N w' p q (SS.start c f l m) ∧ keepBut [] w w' ∧ w.heap.size ≤ p ∧ w.heap.size ≤ q := by
  refine (newQ_any c f l m w hc hf hl hm).mono ?_
  rintro e w' ⟨p, q, rfl, h1, h2, h3, h4⟩
  exact ⟨p, q, rfl, ⟨⟨_, _, _, h1, by simp⟩, fit_start hc hf.1 hl hm, ⟨fun hh => by have := hN _ hh; omega, fun hh => by have := hN _ hh; omega⟩, fun y hy => Nat.lt_of_lt_of_le (hN y hy) h2.size⟩, h2, h3, h4⟩
end
end Go.Proofs.YtkpmlcgbffdloaaDoor
