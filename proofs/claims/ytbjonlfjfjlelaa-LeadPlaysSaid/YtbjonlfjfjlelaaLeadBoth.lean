/-
  LEAD: both leaders beside one another, and blocks of the law's own; configs that are cut.
-/
import Derived.Test.YtbjonlfjfjlelaaLeadFree
import Derived.Test.YtbjonlfjfjlelaaLeadDos
import Derived.Test.YtbjonlfjfjlelaaBring
namespace Go.Proofs.Ytbjonlfjfjlelaa
open Go.RowKit
set_option linter.unusedVariables false
set_option maxRecDepth 100000

structure both (w0 w : World) (p : Nat) (F : List Nat) (s : LS) (q : Nat) (G : List Nat) (t : LS) (E : List Nat) : Prop where
  l : isL w p F s
  m : isM w q G t
  lF : ∀ y ∈ F, w0.heap.size ≤ y
  mG : ∀ y ∈ G, w0.heap.size ≤ y
  ap : ∀ y ∈ F, y ∉ G
  eF : ∀ y ∈ E, y ∉ F
  eG : ∀ y ∈ E, y ∉ G
  eB : ∀ y ∈ E, w0.heap.size ≤ y ∧ y < w.heap.size
  kept : keepBut [] w0 w
theorem both.over {w0 w w' : World} {p q : Nat} {F G E : List Nat} {s t : LS} (h : both w0 w p F s q G t E) (hk : keepBut [] w w') : both w0 w' p F s q G t E :=
  ⟨h.l.over hk, h.m.over hk, h.lF, h.mG, h.ap, h.eF, h.eG, fun y hy => ⟨(h.eB y hy).1, Nat.lt_of_lt_of_le (h.eB y hy).2 hk.size⟩, h.kept.then hk (by simp)⟩
/-- blocks of the law's own are written -/
theorem both.poke {S : List Nat} {w0 w w' : World} {p q : Nat} {F G E : List Nat} {s t : LS} (h : both w0 w p F s q G t E) (hk : keepBut S w w') (hS : ∀ y ∈ S, y ∈ E) : both w0 w' p F s q G t E :=
  ⟨h.l.keep hk (fun y hy hm => h.eF y (hS y hm) hy), h.m.keep hk (fun y hy hm => h.eG y (hS y hm) hy), h.lF, h.mG, h.ap, h.eF, h.eG, fun y hy => ⟨(h.eB y hy).1, Nat.lt_of_lt_of_le (h.eB y hy).2 hk.size⟩, h.kept.then hk (fun y hy => .inr (h.eB y (hS y hy)).1)⟩
/-- new blocks are the law's own; others are forgotten -/
theorem both.grow {w0 w w' : World} {p q : Nat} {F G E E' : List Nat} {s t : LS} (h : both w0 w p F s q G t E) (hk : keepBut [] w w') (hE : ∀ y ∈ E', y ∈ E ∨ (w.heap.size ≤ y ∧ y < w'.heap.size)) : both w0 w' p F s q G t E' := by
  have h' := h.over hk
  refine ⟨h'.l, h'.m, h.lF, h.mG, h.ap, fun y hy hm => ?_, fun y hy hm => ?_, fun y hy => ?_, h'.kept⟩
  · rcases hE y hy with h1 | h1
    · exact h.eF y h1 hm
    · have := h.l.lt y hm; omega
  · rcases hE y hy with h1 | h1
    · exact h.eG y h1 hm
    · have := h.m.lt y hm; omega
  · rcases hE y hy with h1 | h1
    · exact h'.eB y h1
    · exact ⟨Nat.le_trans h.kept.size h1.1, h1.2⟩
theorem both.some {w0 w : World} {p q : Nat} {F G E E' : List Nat} {s t : LS} (h : both w0 w p F s q G t E) (hE : ∀ y ∈ E', y ∈ E) : both w0 w p F s q G t E' :=
  h.grow (keepBut.refl _ _) (fun y hy => .inl (hE y hy))
/-- the program's leader has done a call -/
theorem both.dl {w0 w w' : World} {p q : Nat} {F G E : List Nat} {s s' t : LS} (h : both w0 w p F s q G t E) (hl : lPost p F s' w w') : ∃ F', both w0 w' p F' s' q G t E ∧ keepBut F w w' := by
  obtain ⟨F', a, b, c⟩ := hl
  refine ⟨F', ⟨a, h.m.keep b (fun y hy hm => h.ap y hm hy), fun y hy => ?_, h.mG, fun y hy hm => ?_, fun y hy hm => ?_, h.eG, fun y hy => ⟨(h.eB y hy).1, Nat.lt_of_lt_of_le (h.eB y hy).2 b.size⟩, h.kept.then b (fun y hy => .inr (h.lF y hy))⟩, b⟩
  · rcases c y hy with h1 | h1
    · exact h.lF y h1
    · exact Nat.le_trans h.kept.size h1
  · rcases c y hy with h1 | h1
    · exact h.ap y h1 hm
    · have := h.m.lt y hm; omega
  · rcases c y hm with h1 | h1
    · exact h.eF y hy h1
    · have := (h.eB y hy).2; omega
theorem both.dw {w0 w w' : World} {p q : Nat} {F G E : List Nat} {s s' t : LS} {v : Value} {e : Ending} (h : both w0 w p F s q G t E) (hl : wPost p F s' v w e w') : e = .returned v ∧ ∃ F', both w0 w' p F' s' q G t E ∧ keepBut F w w' :=
  ⟨hl.1, h.dl ⟨F, hl.2.1, hl.2.2.more (fun y hy => by rw [List.mem_singleton.1 hy]; exact h.l.mem), fun y hy => .inl hy⟩⟩
/-- the document's leader has done a call -/
theorem both.dm {w0 w w' : World} {p q : Nat} {F G G' E : List Nat} {s t t' : LS} (h : both w0 w p F s q G t E) (a : isM w' q G' t') (b : keepBut G w w') (c : ∀ y ∈ G', y ∈ G ∨ w.heap.size ≤ y) : both w0 w' p F s q G' t' E := by
  refine ⟨h.l.keep b (fun y hy hm => h.ap y hy hm), a, h.lF, fun y hy => ?_, fun y hy hm => ?_, h.eF, fun y hy hm => ?_, fun y hy => ⟨(h.eB y hy).1, Nat.lt_of_lt_of_le (h.eB y hy).2 b.size⟩, h.kept.then b (fun y hy => .inr (h.mG y hy))⟩
  · rcases c y hy with h1 | h1
    · exact h.mG y h1
    · exact Nat.le_trans h.kept.size h1
  · rcases c y hm with h1 | h1
    · exact h.ap y hy h1
    · have := h.l.lt y hy; omega
  · rcases c y hm with h1 | h1
    · exact h.eG y hy h1
    · have := (h.eB y hy).2; omega
theorem both.dmp {w0 w w' : World} {p q : Nat} {F G E : List Nat} {s t t' : LS} {v : Value} {e : Ending} (h : both w0 w p F s q G t E) (hp : mPost q G t' v w e w') : e = .returned v ∧ ∃ G', both w0 w' p F s q G' t' E ∧ keepBut G w w' := by
  obtain ⟨he, G', a, b, c⟩ := hp
  exact ⟨he, G', h.dm a b c, b⟩

/-- what holds of a leader after i calls -/
structure inP (s : LS) (i : Nat) : Prop where
  i0 : 0 ≤ s.id
  i1 : s.id < 3
  b0 : 0 ≤ s.bal
  b1 : s.bal ≤ 9007199254740991 + 3 * (i : Int)
  p7 : s.prom ≤ 7
  a7 : s.acc ≤ 7
  no : s.pend = false → s.acc = 0 ∧ s.prop = CS.zero
  len : s.bound.length ≤ 8 * i
theorem inP.ok {s : LS} {i : Nat} (h : inP s i) (hi : i ≤ 60) : s.ok := ⟨h.i0, h.i1, h.b0, by have := h.b1; omega, h.p7, h.a7⟩
theorem inP.grow {s : LS} {i : Nat} (h : inP s i) : inP s (i + 1) := ⟨h.i0, h.i1, h.b0, by have := h.b1; omega, h.p7, h.a7, h.no, by have := h.len; omega⟩
theorem inP.new (id : Int) (h0 : 0 ≤ id) (h1 : id < 3) : inP (LS.new id) 0 := ⟨h0, h1, by simp [LS.new], by simp [LS.new], by simp [LS.new], by simp [LS.new], fun _ => ⟨rfl, rfl⟩, by simp [LS.new]⟩
theorem inP.start {s : LS} {i : Nat} (h : inP s i) (a f : Int) : inP (s.start a f).2.2 (i + 1) := by
  unfold LS.start
  split
  · exact h.grow
  · have hb := nextB_ok (max a s.bal + 1) s.id h.i0 h.i1
    have := h.b0; have := h.b1
    exact ⟨h.i0, h.i1, by show 0 ≤ nextB _ _; omega, by show nextB _ _ ≤ _; omega, by simp, by simp, fun _ => ⟨rfl, rfl⟩, by simp⟩
theorem inP.no' {s : LS} {i : Nat} (h : inP s i) (b : Int) : inP (s.no b).2 (i + 1) := by
  unfold LS.no
  split
  · exact h.grow
  · exact ⟨h.i0, h.i1, h.b0, h.grow.b1, h.p7, by simp [LS.withdraw], fun _ => ⟨rfl, rfl⟩, h.grow.len⟩
theorem inP.yes {s : LS} {i : Nat} (h : inP s i) (who : Nat) (hw : who < 3) (hp : s.pend = true) : inP (s.yes who).2 (i + 1) := by
  unfold LS.yes
  split
  · exact ⟨h.i0, h.i1, h.b0, h.grow.b1, h.p7, orB_le _ h.a7 _ hw, fun q => (by rw [show s.pend = false from q] at hp; cases hp), h.grow.len⟩
  · exact ⟨h.i0, h.i1, h.b0, h.grow.b1, h.p7, by simp [LS.withdraw], fun _ => ⟨rfl, rfl⟩, h.grow.len⟩
theorem inP.prop {s : LS} {i : Nat} (h : inP s i) (c : CS) : inP (s.propose c).2.2 (i + 1) := by
  unfold LS.propose
  split
  · exact h.grow
  · split
    · exact h.grow
    · exact ⟨h.i0, h.i1, h.b0, h.grow.b1, h.p7, h.a7, fun q => (by cases q), h.grow.len⟩
theorem inP.prom {s : LS} {i : Nat} (h : inP s i) (who : Nat) (hw : who < 3) (b : Int) (l : List VS) (hl : l.length ≤ 8) : inP (s.promise who b l).2.2 (i + 1) := by
  unfold LS.promise
  split
  · exact h.grow
  · have hs := LS.binds_same l { s with prom := orB s.prom who }
    have hb := binds_len l { s with prom := orB s.prom who }
    have hq : inP (LS.binds { s with prom := orB s.prom who } l) (i + 1) := by
      obtain ⟨e1, e2, e3, e4, e5, e6, e7, e8⟩ := hs
      refine ⟨by rw [e1]; exact h.i0, by rw [e1]; exact h.i1, by rw [e3]; exact h.b0, by rw [e3]; exact h.grow.b1, by rw [e5]; exact orB_le _ h.p7 _ hw, by rw [e8]; exact h.a7, fun q => ?_, ?_⟩
      · rw [e6] at q; rw [e7, e8]; exact h.no q
      · have := h.len; simp at hb; omega
    clear hs hb
    dsimp only
    generalize LS.binds { s with prom := orB s.prom who } l = t at hq ⊢
    split
    · exact ⟨hq.i0, hq.i1, hq.b0, hq.b1, hq.p7, hq.a7, hq.no, hq.len⟩
    · exact hq

theorem argI.held8 {w : World} {A : Option Addr} {l : List Int} {n : Nat} (h : argI w (.slice A l.length n) l) : l.length ≤ n ∧ n ≤ maxLen ∧ ∃ H, held w H (.slice A (l.take 8).length n) (l.take 8) ∧ ∀ y ∈ H, y < w.heap.size := by
  obtain ⟨A', c, g, he, h2, h3, h4, h5⟩ := h
  injection he with e1 e2 e3
  subst e1 e3
  have hl : (l.take 8).length ≤ l.length := by rw [List.length_take]; omega
  refine ⟨h2, h3, if l.take 8 = [] then [] else [g], ⟨A, n, g, rfl, by omega, h3, by rw [List.length_take]; omega, ⟨by simp [cellsK], fun hn => ?_⟩, fun hne => by rw [if_neg hne]; simp⟩, fun y hy => ?_⟩
  · obtain ⟨o, e1, e2, e3⟩ := h4.2 (by omega)
    refine ⟨o, e1, e2, fun j u hu => e3 j u ?_⟩
    simp only [cellsK, List.map_take, List.getElem?_take] at hu ⊢
    split at hu
    · exact hu
    · cases hu
  · by_cases hne : l.take 8 = []
    · rw [if_pos hne] at hy; simp at hy
    · rw [if_neg hne] at hy; rw [List.mem_singleton.1 hy]; exact h5 (by rintro rfl; simp at hne)

def cutPost (num full : Int) (v : Value) (w : World) (e : Ending) (w' : World) : Prop := e = .returned (.agg #[.int .i64 num, .int .i64 full, v]) ∧ keepBut [] w w'
set_option maxHeartbeats 1000000 in
theorem cutConf_any (num full : Int) (A : Option Addr) (l : List Int) (n : Nat) (w : World) (hl : l.length ≤ n) (hn : n ≤ maxLen) :
    Calls Try.prog 66 #[.agg #[.int .i64 num, .int .i64 full, .slice A l.length n]] w (cutPost num full (.slice A (l.take 8).length n) w) := by
  unfold maxLen at hn
  obtain ⟨L, hL⟩ : ∃ L, l.length = L := ⟨_, rfl⟩
  obtain ⟨m, hm⟩ : ∃ m, (l.take 8).length = m := ⟨_, rfl⟩
  have hmm : min 8 L = m := by rw [← hm, List.length_take, hL]
  rw [hm, hL]
  have hmin : (if 8 < (L : Int) then 8 else (L : Int)).toNat = m := by split <;> omega
  have hmn : m ≤ n := by omega
  have HM := Lib.hid hmin
  clear hmin hm hL
  have hcs : (8 < (L : Int) ∧ (m : Int) = 8) ∨ (¬ 8 < (L : Int) ∧ L = m) := by omega
  rcases hcs with ⟨c1, c2⟩ | ⟨c1, c2⟩
  · obtain rfl : m = 8 := by omega
    clear c2
    go_enter Try.func66, Try.ntmps66
    go_wp2
    refine bodyPost_ret (v := .agg #[.int .i64 num, .int .i64 full, .slice A 8 n]) (by simp [results, Try.results66, go_sem, *]) rfl ?_
    exact ⟨rfl, ((keepBut.refl [] w).alloc _).alloc _⟩
  · subst c2
    go_enter Try.func66, Try.ntmps66
    go_wp2
    refine bodyPost_ret (v := .agg #[.int .i64 num, .int .i64 full, .slice A L n]) (by simp [results, Try.results66, go_sem, *]) rfl ?_
    exact ⟨rfl, ((keepBut.refl [] w).alloc _).alloc _⟩
end Go.Proofs.Ytbjonlfjfjlelaa
