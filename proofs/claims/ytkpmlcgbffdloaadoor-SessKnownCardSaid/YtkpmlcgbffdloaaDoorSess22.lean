/-
  SESS, 22: a law's session: what each call does to it, by equations; begun.
-/
import Derived.Test.YtkpmlcgbffdloaaDoorSess21
namespace Go.Proofs.YtkpmlcgbffdloaaDoor
open Go.RowKit
set_option linter.unusedVariables false
set_option maxRecDepth 100000
set_option linter.unusedSimpArgs false

/-- a session that a law has made since w0, apart from N -/
structure lawQ (w0 : World) (N : List Nat) (w : World) (p q : Nat) (s : SS) : Prop where
  on : sOn N w p q s
  kept : keepBut [] w0 w
  far : w0.heap.size ≤ p ∧ w0.heap.size ≤ q
  sz : sizesAt w0
section
variable {w0 : World} {N : List Nat} {w : World} {p q : Nat} {s : SS} (h : lawQ w0 N w p q s)
include h
theorem lawQ.sizes : sizesAt w := h.sz.keep h.kept (by simp)
theorem lawQ.over {w' : World} (hk : keepBut [] w w') : lawQ w0 N w' p q s := ⟨h.on.over hk, h.kept.then hk (by simp), h.far, h.sz⟩
theorem lawQ.then {w' : World} {s' : SS} (h' : sOn N w' p q s') (hk : keepBut [p, q] w w') : lawQ w0 N w' p q s' :=
  ⟨h', h.kept.then hk (fun x hx => .inr (by have := h.far; simp only [List.mem_cons, List.not_mem_nil, or_false] at hx; rcases hx with rfl | rfl <;> omega)), h.far, h.sz⟩
theorem lawQ.asks {G : List Nat} {r : RQ} {rv : Value} (hr : rqV w G r rv) {n e : Int} {x : Int × Int} {s' : SS} {b : Bool} (es : s.askP r = (x, s')) (eb : (decide (x.1 = n) && decide (x.2 = e)) = b) :
    Calls Tryd.prog 19 #[.pointer (some ⟨p, 0, none⟩), .agg (rqL r rv).toArray, .int .i64 n, .int .i64 e] w (fun z w' => z = .returned (.bool b) ∧ lawQ w0 N w' p q s' ∧ keepBut [p] w w') := by
  refine (asks_any h.on hr h.sizes n e).mono ?_
  rintro z w' ⟨rfl, h2, k2⟩
  unfold asksP
  rw [es] at h2 ⊢
  rw [eb]
  exact ⟨rfl, h.then h2 (k2.more (by simp)), k2⟩
theorem lawQ.tick {L : List PK} {s' : SS} (es : s.tickP = (L, s')) :
    Calls Tryd.prog 24 #[.pointer (some ⟨p, 0, none⟩)] w (fun z w' => ∃ v D K, z = .returned v ∧ sentV w w' v L D K ∧ lawQ w0 N w' p q s' ∧ keepBut [p, q] w w') := by
  refine h.on.tick.mono ?_
  rintro z w' ⟨v, D, K, rfl, h1, h2, k2⟩
  rw [es] at h1 h2
  exact ⟨v, D, K, rfl, h1, h.then h2 k2, k2⟩
theorem lawQ.take {G : List Nat} {x : PK} {xe xa xc xv xb : Value} (hx : pkV w G x xe xa xc xv xb) (hGp : ∀ y ∈ G, y ≠ p) (hl : x.ans.env.length ≤ 1000000) (hl2 : x.conf.chain.length ≤ 1000000) {a : AN} {b : Bool} {s' : SS} (es : s.takeP x = ((a, b), s')) :
    Calls Tryd.prog 17 #[.pointer (some ⟨p, 0, none⟩), .agg (pkL x xe xa xc xv xb).toArray] w (fun z w' => ∃ av G', z = .returned (.tuple #[.agg (anL a av).toArray, .bool b]) ∧ anV w' G' a av ∧ newIn w w' G' ∧ lawQ w0 N w' p q s' ∧ keepBut [p] w w') := by
  refine (h.on.take hx hGp hl hl2).mono ?_
  rintro z w' ⟨av, G', rfl, h1, h2, h3, k2⟩
  rw [es] at h1 h3 ⊢
  exact ⟨av, G', rfl, h1, h2, h.then h3 (k2.more (by simp)), k2⟩
theorem lawQ.late {b : Bool} (e : s.late = b) : Calls Tryd.prog 25 #[.pointer (some ⟨p, 0, none⟩)] w fun e w' => e = .returned (.bool b) ∧ w = w' := by
  subst e; exact h.on.late
theorem lawQ.waits {b : Bool} (e : s.waits = b) : Calls Tryd.prog 18 #[.pointer (some ⟨p, 0, none⟩)] w fun e w' => e = .returned (.bool b) ∧ w = w' := by
  subst e; exact h.on.waits
theorem lawQ.num {b : Int} (e : s.last = b) : Calls Tryd.prog 15 #[.pointer (some ⟨p, 0, none⟩)] w fun e w' => e = .returned (.int .i64 b) ∧ w = w' := by
  subst e; exact h.on.num
end
theorem sentV.sends {w0 w : World} {v : Value} {L : List PK} {D : List (PK × List Value)} {K : List Nat} (h : sentV w0 w v L D K) {m b : Bool} {hd : Int} (eb : sendsF m hd L 0 0 = b) (hl : L.length ≤ 1000) :
    Calls Tryd.prog 23 #[v, .bool m, .int .i64 hd] w fun e w' => e = .returned (.bool b) ∧ w = w' := by
  subst eb
  have hdl : D.length = L.length := by rw [← h.ps, List.length_map]
  have := sends_any v D K w m hd h.own h.its (by omega)
  rw [h.ps] at this
  exact this
theorem sentV.form {w0 w : World} {v : Value} {L : List PK} {D : List (PK × List Value)} {K : List Nat} (h : sentV w0 w v L D K) {n : Nat} (hn : L.length = n) : ∃ A c, v = .slice A n c := by
  obtain ⟨A, c, hv, _⟩ := h.own.form
  have hd : D.length = L.length := by rw [← h.ps, List.length_map]
  rw [hd, hn] at hv
  exact ⟨A, c, hv⟩
theorem new_law (N : List Nat) (c f l m : Int) (w0 w : World) (hk : keepBut [] w0 w) (hsz : sizesAt w0) (hN : ∀ y ∈ N, y < w.heap.size) (hc : 0 ≤ c ∧ c ≤ 2) (hf : 1 ≤ f ∧ f ≤ 9007199254740991) (hl : 1 ≤ l ∧ l ≤ 1000) (hm : 1 ≤ m ∧ m ≤ 100000) :
    Calls Tryd.prog 9 #[.int .i64 c, .int .i64 f, .int .i64 l, .int .i64 m] w fun e w' => ∃ p q, e = .returned (.tuple #[.pointer (some ⟨p, 0, none⟩), .int .i64 0]) ∧ lawQ w0 N w' p q (SS.start c f l m) ∧ keepBut [] w w' ∧ w.heap.size ≤ p ∧ w.heap.size ≤ q := by
  refine (new_on N c f l m w hN hc hf hl hm).mono ?_
  rintro e w' ⟨p, q, rfl, h1, h2, h3, h4⟩
  have hs := hk.size
  exact ⟨p, q, rfl, ⟨h1, hk.then h2 (by simp), ⟨by omega, by omega⟩, hsz⟩, h2, h3, h4⟩
def begunS (l m : Int) : SS := (SS.start 2 1 l m).took (getR 7)
theorem begun_ask (l m : Int) : (SS.start 2 1 l m).askP (getR 7) = ((1, 0), begunS l m) := by
  unfold SS.askP
  rw [if_neg (by simp [SS.start]), if_neg (by show ¬ (9007199254740991 : Int) < 1; decide), if_pos (by show RQ.tok ((getR 7).as 2 1) = true; rfl)]
  rfl
def begunOn (w0 : World) (N : List Nat) (l m : Int) (w : World) (e : Ending) (w' : World) : Prop :=
  ∃ p q, e = .returned (.tuple #[.pointer (some ⟨p, 0, none⟩), .bool true]) ∧ lawQ w0 N w' p q (begunS l m) ∧ keepBut [] w w' ∧ w.heap.size ≤ p ∧ w.heap.size ≤ q
set_option maxHeartbeats 4000000 in
theorem begun_any (N : List Nat) (l m : Int) (w0 w : World) (hk : keepBut [] w0 w) (hsz : sizesAt w0) (hN : ∀ y ∈ N, y < w.heap.size) (hl : 1 ≤ l ∧ l ≤ 1000) (hm : 1 ≤ m ∧ m ≤ 100000) :
    Calls Tryd.prog 14 #[.int .i64 l, .int .i64 m] w (begunOn w0 N l m w) := by
  have H0 := Lib.hid (new_law N 2 1 l m w0 w hk hsz hN (by decide) (by decide) hl hm)
  clear hk hsz hN hl hm
  go_enter Tryd.func14, Tryd.ntmps14
  go_wp2_with (first
    | (go_at_call 9; (with_reducible refine H0.out.mono ?_); rintro e w1 ⟨p, q, rfl, h1, k1, hp, hq⟩; have H1 := Lib.hid (And.intro h1 (And.intro k1 (And.intro hp hq))); clear h1 k1 hp hq)
    | (go_at_call 20; (refine (get_any 7 _).mono ?_); rintro e w2 ⟨rfl, k2⟩; have H2 := Lib.hid k2; clear k2)
    | (go_at_call 19; (refine ((H1.out.1.over H2.out).asks (getR_val _ [] 7) (b := true) (begun_ask l m) (by decide)).mono ?_); rintro e w3 ⟨rfl, h3, k3⟩; have H3 := Lib.hid (And.intro h3 k3); clear h3 k3))
  go_ret2
  refine ⟨p, q, rfl, H3.out.1, ?_, H1.out.2.2.1, H1.out.2.2.2⟩
  exact ((H1.out.2.1.then H2.out (by simp)).then H3.out.2 (fun x hx => .inr (by have := H1.out.2.2; simp only [List.mem_singleton] at hx; omega)))
end Go.Proofs.YtkpmlcgbffdloaaDoor
