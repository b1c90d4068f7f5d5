/-
  LEAD: the two lists of votes that the law's own step makes: its copies, and the argument's own.
-/
import Derived.Test.YtbjonlfjfjlelaaLeadNine
import Derived.Deep.CutBlock
namespace Go.Proofs.Ytbjonlfjfjlelaa
open Go.RowKit
set_option linter.unusedVariables false
set_option maxRecDepth 100000

def cutV (d : VS) : VS := { d with c := { d.c with chain := d.c.chain.take 8 } }
structure vts (w0 w : World) (v1 v2 : Value) (T1 T2 : List (VS × Value)) (C : List Nat) (n1 n2 : Nat) : Prop where
  o1 : owns w 78 4 v1 n1 (flatT T1)
  o2 : owns w 78 4 v2 n2 (flatT T2)
  l1 : T1.length = n1
  l2 : T2.length = n2
  h1 : ∀ t ∈ T1, held w C t.2 t.1.c.chain
  z1 : unfz w C
  h2 : ∀ t ∈ T2, held w0 (List.range w0.heap.size) t.2 t.1.c.chain
  c1 : ∀ y ∈ C, y ∉ homes v1
  c2 : ∀ y ∈ C, y ∉ homes v2
  d : ∀ y ∈ homes v1, y ∉ homes v2
  Lt : ∀ y ∈ C, y < w.heap.size
theorem owns.lt4 {w : World} {e : TypeId} {sz n : Nat} {v : Value} {xs : List Value} (h : owns w e sz v n xs) : ∀ y ∈ homes v, y < w.heap.size := by
  obtain ⟨A, c, rfl, _, _, h5, _⟩ := h.form
  exact h5
theorem unfz.keep {S C : List Nat} {w w' : World} (h : unfz w C) (hk : keepBut S w w') (hl : ∀ y ∈ C, y < w.heap.size) (hS : ∀ y ∈ C, y ∉ S) : unfz w' C := by
  intro y hy j
  rw [← h y hy j]
  simp only [World.frozen?, hk.block y (hl y hy) (hS y hy)]
theorem vts.nil (w0 w : World) : vts w0 w (.slice none 0 0) (.slice none 0 0) [] [] [] 0 0 :=
  ⟨owns.nil _ _ _, owns.nil _ _ _, rfl, rfl, by simp, by intro y hy; simp at hy, by simp, by simp, by simp, by simp [homes_none], by simp⟩
theorem vts.keep {S : List Nat} {w0 w w' : World} {v1 v2 : Value} {T1 T2 : List (VS × Value)} {C : List Nat} {n1 n2 : Nat} (h : vts w0 w v1 v2 T1 T2 C n1 n2) (hk : keepBut S w w')
    (h1 : ∀ y ∈ homes v1, y ∉ S) (h2 : ∀ y ∈ homes v2, y ∉ S) (h3 : ∀ y ∈ C, y ∉ S) : vts w0 w' v1 v2 T1 T2 C n1 n2 :=
  ⟨h.o1.keep hk h1, h.o2.keep hk h2, h.l1, h.l2, fun t ht => (h.h1 t ht).keep hk h3, h.z1.keep hk h.Lt h3, h.h2, h.c1, h.c2, h.d, fun y hy => Nat.lt_of_lt_of_le (h.Lt y hy) hk.size⟩
theorem vts.over {w0 w w' : World} {v1 v2 : Value} {T1 T2 : List (VS × Value)} {C : List Nat} {n1 n2 : Nat} (h : vts w0 w v1 v2 T1 T2 C n1 n2) (hk : keepBut [] w w') : vts w0 w' v1 v2 T1 T2 C n1 n2 :=
  h.keep hk (by simp) (by simp) (by simp)
/-- one more of the argument's own -/
theorem vts.add2 {w0 w wa w8 : World} {v1 v2 v8 cv : Value} {T1 T2 : List (VS × Value)} {C : List Nat} {n1 n2 : Nat} {d : VS} (h : vts w0 w v1 v2 T1 T2 C n1 n2) (hk : keepBut [] w wa)
    (ho : owns w8 78 4 v8 (n2 + 1) (flatT T2 ++ [.int .i64 d.bal, .int .i64 d.c.num, .int .i64 d.c.full, cv])) (hkb : keepBut (homes v2) wa w8) (hl : ∀ y ∈ homes v8, y ∈ homes v2 ∨ wa.heap.size ≤ y)
    (hh : held w0 (List.range w0.heap.size) cv d.c.chain) : vts w0 w8 v1 v8 T1 (T2 ++ [(d, cv)]) C n1 (n2 + 1) := by
  have ha := h.over hk
  have hb := ha.o1.lt4
  refine ⟨ha.o1.keep hkb h.d, by rw [flatT_add]; exact ho, h.l1, by simp [h.l2], fun t ht => (ha.h1 t ht).keep hkb h.c2, ha.z1.keep hkb ha.Lt h.c2, fun t ht => ?_, h.c1, fun y hy hm => ?_, fun y hy hm => ?_, fun y hy => Nat.lt_of_lt_of_le (ha.Lt y hy) hkb.size⟩
  · rcases List.mem_append.1 ht with q | q
    · exact h.h2 t q
    · rw [List.mem_singleton.1 q]; exact hh
  · rcases hl y hm with q | q
    · exact h.c2 y hy q
    · have := ha.Lt y hy; omega
  · rcases hl y hm with q | q
    · exact h.d y hy q
    · have := hb y hy; omega
/-- one more of the copies -/
theorem vts.add1 {w0 w wb wa w8 : World} {v1 v2 v8 cv : Value} {T1 T2 : List (VS × Value)} {C G : List Nat} {n1 n2 : Nat} {d : VS} (h : vts w0 w v1 v2 T1 T2 C n1 n2) (hk0 : keepBut [] w wb)
    (hh : held wb G cv d.c.chain) (hz : unfz wb G) (hG : ∀ y ∈ G, w.heap.size ≤ y ∧ y < wb.heap.size) (hk : keepBut [] wb wa)
    (ho : owns w8 78 4 v8 (n1 + 1) (flatT T1 ++ [.int .i64 d.bal, .int .i64 d.c.num, .int .i64 d.c.full, cv])) (hkb : keepBut (homes v1) wa w8) (hl : ∀ y ∈ homes v8, y ∈ homes v1 ∨ wa.heap.size ≤ y) :
    vts w0 w8 v8 v2 (T1 ++ [(d, cv)]) T2 (C ++ G) (n1 + 1) n2 := by
  have hb := h.over hk0
  have ha := hb.over hk
  have hl1 := h.o1.lt4
  have hl2 := h.o2.lt4
  have hl2a := ha.o2.lt4
  have hs := hk.size
  have hs2 := hkb.size
  have hG1 : ∀ y ∈ G, y ∉ homes v1 := fun y hy hm => by have := hl1 y hm; have := (hG y hy).1; omega
  refine ⟨by rw [flatT_add]; exact ho, ha.o2.keep hkb (fun y hy hm => h.d y hm hy), by simp [h.l1], h.l2, fun t ht => ?_, fun y hy => ?_, h.h2, fun y hy hm => ?_, fun y hy hm => ?_, fun y hy hm => ?_, fun y hy => ?_⟩
  · rcases List.mem_append.1 ht with q | q
    · exact ((ha.h1 t q).keep hkb h.c1).more (fun y hy => List.mem_append.2 (.inl hy))
    · rw [List.mem_singleton.1 q]
      exact ((hh.keep hk (by simp)).keep hkb hG1).more (fun y hy => List.mem_append.2 (.inr hy))
  · rcases List.mem_append.1 hy with q | q
    · exact ha.z1.keep hkb ha.Lt h.c1 y q
    · exact ((hz.keep hk (fun y hy => (hG y hy).2) (by simp)).keep hkb (fun y hy => Nat.lt_of_lt_of_le (hG y hy).2 hk.size) hG1) y q
  · rcases List.mem_append.1 hy with q | q
    · rcases hl y hm with r | r
      · exact h.c1 y q r
      · have := ha.Lt y q; omega
    · rcases hl y hm with r | r
      · exact hG1 y q r
      · have := (hG y q).2; omega
  · rcases List.mem_append.1 hy with q | q
    · exact h.c2 y q hm
    · have := hl2 y hm; have := (hG y q).1; omega
  · rcases hl y hy with r | r
    · exact h.d y r hm
    · have := hl2a y hm; omega
  · rcases List.mem_append.1 hy with q | q
    · exact Nat.lt_of_lt_of_le (ha.Lt y q) hs2
    · have := (hG y q).2; omega
/-- such a list reads as votes -/
theorem votes_all {w : World} {v : Value} {n : Nat} {T : List (VS × Value)} {C : List Nat} (h : owns w 78 4 v n (flatT T)) (hl : T.length = n) (hn : n ≤ 1000000) (hc : ∀ t ∈ T, held w C t.2 t.1.c.chain) :
    votesV w (homes v ++ C) v (T.map (·.1)) := by
  obtain ⟨A, c, e, h2, h3, _⟩ := h.form
  have hlen : (T.map (·.1)).length = n := by simp [hl]
  refine ⟨A, c, by rw [hlen]; exact e, by omega, h3, by omega, fun hne => ?_⟩
  have hn0 : 0 < n := by rw [← hlen]; exact List.length_pos_iff.2 hne
  obtain ⟨g, c', e', _, _, hg, hho, hcell, _⟩ := owns4_at h hn0
  rw [e] at e'
  injection e' with e1 _ _
  refine ⟨g, 0, e1, hg, List.mem_append.2 (.inl (by rw [hho]; simp)), fun i d hd => ?_⟩
  rw [List.getElem?_map] at hd
  cases ht : T[i]? with
  | none => rw [ht] at hd; cases hd
  | some t =>
    rw [ht] at hd
    simp at hd
    subst hd
    obtain ⟨y0, y1, y2, y3⟩ := flatT_at T i t ht
    refine ⟨t.2, (hc t (List.mem_of_getElem? ht)).more (fun y hy => List.mem_append.2 (.inr hy)), ?_, ?_, ?_, ?_⟩
    · simpa using hcell _ _ y0
    · simpa using hcell _ _ y1
    · simpa using hcell _ _ y2
    · simpa using hcell _ _ y3
/-- blocks of the law's own are written, others are made -/
theorem both.own {S : List Nat} {w0 w w' : World} {p q : Nat} {F G E E' : List Nat} {s t : LS} (h : both w0 w p F s q G t E) (hk : keepBut S w w') (hS : ∀ y ∈ S, y ∈ E) (hE : ∀ y ∈ E', y ∈ E ∨ (w.heap.size ≤ y ∧ y < w'.heap.size)) : both w0 w' p F s q G t E' := by
  have h' := h.poke hk hS
  refine h'.add (fun y hy => ?_)
  rcases hE y hy with q | q
  · exact .inl q
  · exact .inr ⟨fun hm => by have := h.l.lt y hm; omega, fun hm => by have := h.m.lt y hm; omega, Nat.le_trans h.kept.size q.1, q.2⟩
def canNineV (w : World) (C : List Nat) (t : VS × Value) : Prop := ∃ A nn, t.2 = .slice A t.1.c.chain.length nn ∧ t.1.c.chain.length ≤ 1000000 ∧ canNine w A t.1.c.chain.length C
theorem vts.nines {w0 w : World} {v1 v2 : Value} {T1 T2 : List (VS × Value)} {C : List Nat} {n1 n2 : Nat} (h : vts w0 w v1 v2 T1 T2 C n1 n2) : ∀ t ∈ T1, canNineV w C t := by
  intro t ht
  obtain ⟨A, c, g, e, h2, h3, h4, h5, h6⟩ := h.h1 t ht
  have hh : held w C (.slice A t.1.c.chain.length t.1.c.chain.length) t.1.c.chain := ⟨A, t.1.c.chain.length, g, rfl, Nat.le_refl _, by omega, h4, h5, h6⟩
  exact ⟨A, c, e, h4, hh.canNine h.z1 (fun y hy => hy)⟩
theorem canNineV.keep {S C : List Nat} {w w' : World} {t : VS × Value} (h : canNineV w C t) (hk : keepBut S w w') (hS : ∀ y ∈ C, y ∉ S) : canNineV w' C t := by
  obtain ⟨A, nn, e1, e2, e3⟩ := h
  exact ⟨A, nn, e1, e2, e3.keep hk hS⟩
/-- a cell of a number is overwritten by -9 somewhere in C -/
theorem canNine.set2 {w : World} {g o i n : Nat} {u : Int} {A : Option Addr} {C : List Nat} (h : canNine w A n C) (hu : w.cell? ⟨g, o + i, none⟩ = some (.int .i64 u)) : canNine (w.setCell ⟨g, o + i, none⟩ (.int .i64 (-9))) A n C := by
  intro hn
  obtain ⟨g', o', e1, e2, e3⟩ := h hn
  refine ⟨g', o', e1, e2, fun j hj => ?_⟩
  obtain ⟨u', a, b⟩ := e3 j hj
  by_cases hji : (⟨g', o' + j, none⟩ : Addr) = ⟨g, o + i, none⟩
  · rw [hji]
    exact ⟨-9, by rw [World.cell?_setCell_same' _ _ _ (by rw [hu]; rfl)], by rw [World.frozen?_setCell, ← hji]; exact b⟩
  · refine ⟨u', ?_, by rw [World.frozen?_setCell]; exact b⟩
    rw [World.cell?_setCell_other]
    · exact a
    · exact fun e => hji e.symm
theorem canNineV.set {w : World} {g o i : Nat} {u : Int} {C : List Nat} {t : VS × Value} (h : canNineV w C t) (hu : w.cell? ⟨g, o + i, none⟩ = some (.int .i64 u)) : canNineV (w.setCell ⟨g, o + i, none⟩ (.int .i64 (-9))) C t := by
  obtain ⟨A, nn, e1, e2, e3⟩ := h
  exact ⟨A, nn, e1, e2, e3.set2 hu⟩
theorem held.range {w0 : World} {H : List Nat} {v : Value} {l : List Int} (h : held w0 H v l) (hH : ∀ y ∈ H, y < w0.heap.size) : held w0 (List.range w0.heap.size) v l := h.more (fun y hy => List.mem_range.2 (hH y hy))

def cpPost (dn df : Int) (x8 : List Int) (W : World) (e : Ending) (w' : World) : Prop :=
  ∃ A7 n7 G, e = .returned (.agg #[.int .i64 dn, .int .i64 df, .slice A7 x8.length n7]) ∧ held w' G (.slice A7 x8.length n7) x8 ∧ (∀ y ∈ G, W.heap.size ≤ y ∧ y < w'.heap.size) ∧ keepBut [] W w' ∧ unfz w' G
theorem cpConf_any (H : List Nat) (dn df : Int) (x8 : List Int) (A : Option Addr) (n : Nat) (W : World) (h : held W H (.slice A x8.length n) x8) :
    Calls Try.prog 67 #[.agg #[.int .i64 dn, .int .i64 df, .slice A x8.length n]] W (cpPost dn df x8 W) := by
  refine (copyConf_free H ⟨dn, df, x8⟩ _ W h).mono ?_
  rintro e w' ⟨cv, rfl, G, hh, hG, hk, hz⟩
  obtain ⟨A7, n7, g7, rfl, _⟩ := id hh
  exact ⟨A7, n7, G, rfl, hh, hG, hk, hz⟩
/-- what a Promise answers, whatever it is asked -/
def promAll (s : LS) (a b : Int) (L : List VS) : Bool × Int × LS := if a < 0 ∨ 3 ≤ a then (false, 9, s) else s.promise a.toNat b L
theorem promise_code (s : LS) (who : Nat) (L : List VS) (h : s.ph = 1) : (s.promise who s.bal L).2.1 = 0 := by
  unfold LS.promise
  rw [if_neg (by simp [h])]
  dsimp only
  split <;> rfl
theorem promL_all (p : Nat) (F G : List Nat) (s : LS) (a b : Int) (v : Value) (l : List VS) (w : World) (h : isL w p F s) (hok : s.ok) (hv : votesV w G v l) (hG : ∀ y ∈ G, y ∉ F ∧ y < w.heap.size) :
    Calls Try.prog 43 #[.pointer (some ⟨p, 0, none⟩), .int .i64 a, .int .i64 b, v] w (pPost p F (promAll s a b l).2.2 (.tuple #[.bool (promAll s a b l).1, .int .i64 (promAll s a b l).2.1]) w) := by
  obtain ⟨A, c, e, _⟩ := id hv
  have hsame : lPost p F s w w := ⟨F, h, keepBut.refl _ _, fun y hy => .inl hy⟩
  unfold promAll
  by_cases hw : a < 0 ∨ 3 ≤ a
  · rw [if_pos hw]
    refine (promise_no p F s a b v w h hw A _ c e).mono ?_
    rintro e w' ⟨rfl, rfl⟩
    exact ⟨rfl, hsame⟩
  · rw [if_neg hw]
    obtain ⟨who, rfl⟩ : ∃ who : Nat, a = (who : Int) := ⟨a.toNat, by omega⟩
    rw [Int.toNat_natCast]
    by_cases hst : s.ph ≠ 1 ∨ b ≠ s.bal
    · rw [show s.promise who b l = (false, 170, s) by unfold LS.promise; rw [if_pos hst]]
      refine (promise_state p F s who b v w h (by omega) (by omega) A _ c e hst).mono ?_
      rintro e w' ⟨rfl, rfl⟩
      exact ⟨rfl, hsame⟩
    · have h1 : s.ph = 1 := Classical.byContradiction fun e => hst (.inl e)
      have h2 : b = s.bal := Classical.byContradiction fun e => hst (.inr e)
      subst h2
      rw [promise_code s who l h1]
      exact promise_yes p F G s who v l w h hok (by omega) h1 hv hG
theorem promM_all (q : Nat) (G Gv : List Nat) (s : LS) (a b : Int) (v : Value) (l : List VS) (w : World) (h : isM w q G s) (hok : s.ok) (hv : votesV w Gv v l) (hG : ∀ y ∈ Gv, y ∉ G ∧ y < w.heap.size) (hT : s.bound.length + l.length ≤ 100000) :
    Calls Try.prog 68 #[.pointer (some ⟨q, 0, none⟩), .int .i64 a, .int .i64 b, v] w (mPost q G (promAll s a b l).2.2 (.tuple #[.bool (promAll s a b l).1, .int .i64 (promAll s a b l).2.1]) w) := by
  obtain ⟨A, c, e, _⟩ := id hv
  unfold promAll
  by_cases hw : a < 0 ∨ 3 ≤ a
  · rw [if_pos hw, e]
    refine (promiseM_no q a b A _ c w hw).mono ?_
    rintro e w' ⟨rfl, rfl⟩
    exact mPost.same h (keepBut.refl _ _)
  · rw [if_neg hw]
    obtain ⟨who, rfl⟩ : ∃ who : Nat, a = (who : Int) := ⟨a.toNat, by omega⟩
    rw [Int.toNat_natCast]
    by_cases hst : s.ph ≠ 1 ∨ b ≠ s.bal
    · rw [show s.promise who b l = (false, 170, s) by unfold LS.promise; rw [if_pos hst], e]
      refine (promiseM_state q G s who b A _ c w h (by omega) (by omega) hst).mono ?_
      rintro e w' ⟨rfl, rfl⟩
      exact mPost.same h (keepBut.refl _ _)
    · have h1 : s.ph = 1 := Classical.byContradiction fun e => hst (.inl e)
      have h2 : b = s.bal := Classical.byContradiction fun e => hst (.inr e)
      subst h2
      rw [promise_code s who l h1]
      exact promiseM_yes q G Gv s who v l w h hok (by omega) h1 hv hG hT
theorem inP.promAll {s : LS} {i : Nat} (h : inP s i) (a b : Int) (l : List VS) (hl : l.length ≤ 8) : inP (promAll s a b l).2.2 (i + 1) := by
  unfold Go.Proofs.Ytbjonlfjfjlelaa.promAll
  by_cases hw : a < 0 ∨ 3 ≤ a
  · rw [if_pos hw]; exact h.grow
  · rw [if_neg hw]; exact h.prom a.toNat (by omega) b l hl

/-- the loop that makes both lists -/
def mkRel (w0 : World) (p : Nat) (F : List Nat) (s : LS) (q : Nat) (G : List Nat) (ta : Nat) (row : Array Value) (vl : List VS) (v11 v12 v13 : Value) (wx : World) : Prop :=
  ∃ (i : Nat) (T1 T2 : List (VS × Value)) (C : List Nat), i ≤ 8 ∧ i ≤ vl.length ∧ v13 = .int .i64 (i : Int) ∧ both w0 wx p F s q G s (ta :: (C ++ homes v11 ++ homes v12)) ∧ rowAt wx ta 58 row ∧
    vts w0 wx v11 v12 T1 T2 C i i ∧ T1.map (·.1) = (vl.take i).map cutV ∧ T2.map (·.1) = (vl.take i).map cutV
def mkMid (w0 : World) (p : Nat) (F : List Nat) (s : LS) (q : Nat) (G : List Nat) (ta : Nat) (row : Array Value) (n : Nat) (v11 v12 : Value) (wx : World) : Prop :=
  ∃ (T1 T2 : List (VS × Value)) (C : List Nat), both w0 wx p F s q G s (ta :: (C ++ homes v11 ++ homes v12)) ∧ rowAt wx ta 58 row ∧ vts w0 wx v11 v12 T1 T2 C n n ∧ T1.map (·.1) = T2.map (·.1)
/-- the loops that write -9 over the copies' chains -/
def ninesRel (w0 : World) (p : Nat) (F : List Nat) (s : LS) (q : Nat) (G : List Nat) (v11 : Value) (n : Nat) (T1 : List (VS × Value)) (C : List Nat) (v19 : Value) (wx : World) : Prop :=
  ∃ (k : Nat), k ≤ n ∧ v19 = .int .i64 (k : Int) ∧ both w0 wx p F s q G s (C ++ homes v11) ∧ owns wx 78 4 v11 n (flatT T1) ∧ ∀ t ∈ T1, canNineV wx C t
def nines2Rel (w0 : World) (p : Nat) (F : List Nat) (s : LS) (q : Nat) (G : List Nat) (v11 : Value) (n : Nat) (T1 : List (VS × Value)) (C : List Nat) (m : Nat) (v20 : Value) (wx : World) : Prop :=
  ∃ (k : Nat), k ≤ m ∧ v20 = .int .i64 (k : Int) ∧ both w0 wx p F s q G s (C ++ homes v11) ∧ owns wx 78 4 v11 n (flatT T1) ∧ ∀ t ∈ T1, canNineV wx C t
end Go.Proofs.Ytbjonlfjfjlelaa
