/-
  LEAD, for LeadBinds: what is bound behind votes in whatever order; a list of votes that the law itself appends.
-/
import Derived.Test.YtbjonlfjfjlelaaLeadNames
namespace Go.Proofs.Ytbjonlfjfjlelaa
open Go.RowKit
set_option linter.unusedVariables false
set_option maxRecDepth 100000

theorem findV_putV (l : List (Int × VS)) (k m : Int) (v : VS) : findV (putV l k v) m = if m = k then some v else findV l m := by
  induction l with
  | nil =>
    unfold putV findV
    by_cases e : k = m
    · simp [e]
    · simp [e, findV]; intro h; exact absurd h.symm e
  | cons p r ih =>
    unfold putV
    by_cases e : p.1 = k
    · rw [if_pos e]
      unfold findV
      by_cases e2 : k = m
      · simp [e2]
      · rw [if_neg e2, if_neg (fun h => e2 h.symm), if_neg (fun h => e2 (e.symm.trans h))]
    · rw [if_neg e]
      unfold findV
      by_cases e2 : p.1 = m
      · rw [if_pos e2, if_pos e2, if_neg (fun h => e (e2.trans h))]
      · rw [if_neg e2, if_neg e2, ih]

def voteOf (b n : Int) : VS := ⟨b, ⟨n, 1, [10 + b]⟩⟩
def bestStep (frm num m : Int) (v : VS) : Int := if v.c.num = num ∧ frm ≤ num ∧ v.bal < 21 then max m v.bal else m
def bestV (frm num : Int) (l : List VS) : Int := l.foldl (bestStep frm num) 0
def goodV (v : VS) : Prop := 0 ≤ v.bal ∧ v.bal < 24 ∧ 0 ≤ v.c.num ∧ v.c.num < 8 ∧ v = voteOf v.bal v.c.num
def mkV (num b : Int) : Option VS := if b = 0 then none else some (voteOf b num)
theorem mkV_zero (num b : Int) (h : b = 0) : mkV num b = none := if_pos h
theorem mkV_pos (num b : Int) (h : b ≠ 0) : mkV num b = some (voteOf b num) := if_neg h
theorem bestStep_in {frm num m : Int} {v : VS} (h : v.c.num = num ∧ frm ≤ num ∧ v.bal < 21) : bestStep frm num m v = max m v.bal := if_pos h
theorem bestStep_out {frm num m : Int} {v : VS} (h : ¬ (v.c.num = num ∧ frm ≤ num ∧ v.bal < 21)) : bestStep frm num m v = m := if_neg h
theorem bind_best (s : LS) (frm : Int) (f : Int → Int) (hb : s.bal = 21) (hfr : s.frm = frm) (hf : ∀ num, 0 ≤ f num) (hs : ∀ num, findV s.bound num = mkV num (f num)) (v : VS) (hv : goodV v) (num : Int) :
    findV (s.bind v).bound num = mkV num (bestStep frm num (f num) v) := by
  obtain ⟨v0, v1, n0, n1, hve⟩ := hv
  have hfv := hf v.c.num
  have hfn := hf num
  by_cases hc : v.c.num < s.frm ∨ v.bal < 1 ∨ s.bal ≤ v.bal
  · have : s.bind v = s := by unfold LS.bind; rw [if_pos hc]
    rw [this, hs]
    by_cases hin : v.c.num = num ∧ frm ≤ num ∧ v.bal < 21
    · rw [bestStep_in hin, show max (f num) v.bal = f num by omega]
    · rw [bestStep_out hin]
  · by_cases h0 : f v.c.num = 0
    · have : s.bind v = { s with bound := putV s.bound v.c.num v } := by unfold LS.bind; rw [if_neg hc, hs, mkV_zero _ _ h0]
      rw [this]
      show findV (putV s.bound v.c.num v) num = _
      rw [findV_putV]
      by_cases e : num = v.c.num
      · subst e
        rw [if_pos rfl, bestStep_in ⟨rfl, by omega, by omega⟩, h0, show max 0 v.bal = v.bal by omega, mkV_pos _ _ (by omega)]
        exact congrArg some hve
      · rw [if_neg e, bestStep_out (fun h => e h.1.symm), hs]
    · by_cases hle : v.bal ≤ f v.c.num
      · have : s.bind v = s := by unfold LS.bind; rw [if_neg hc, hs, mkV_pos _ _ h0]; exact if_pos hle
        rw [this, hs]
        by_cases hin : v.c.num = num ∧ frm ≤ num ∧ v.bal < 21
        · rw [bestStep_in hin]
          rw [show max (f num) v.bal = f num by have := hin.1; rw [this] at hle; omega]
        · rw [bestStep_out hin]
      · have : s.bind v = { s with bound := putV s.bound v.c.num v } := by unfold LS.bind; rw [if_neg hc, hs, mkV_pos _ _ h0]; exact if_neg hle
        rw [this]
        show findV (putV s.bound v.c.num v) num = _
        rw [findV_putV]
        by_cases e : num = v.c.num
        · subst e
          rw [if_pos rfl, bestStep_in ⟨rfl, by omega, by omega⟩, show max (f v.c.num) v.bal = v.bal by omega, mkV_pos _ _ (by omega)]
          exact congrArg some hve
        · rw [if_neg e, bestStep_out (fun h => e h.1.symm), hs]
theorem bestStep_pos (frm num m : Int) (v : VS) (h : 0 ≤ m) : 0 ≤ bestStep frm num m v := by unfold bestStep; split <;> omega
theorem binds_best (frm : Int) : ∀ (l : List VS) (s : LS) (f : Int → Int), s.bal = 21 → s.frm = frm → (∀ num, 0 ≤ f num) → (∀ num, findV s.bound num = mkV num (f num)) → (∀ v ∈ l, goodV v) →
    ∀ num, findV (s.binds l).bound num = mkV num (l.foldl (bestStep frm num) (f num))
  | [], s, f, _, _, _, hs, _, num => hs num
  | v :: r, s, f, hb, hfr, hf, hs, hv, num => by
    have h := LS.bind_same s v
    exact binds_best frm r (s.bind v) (fun n => bestStep frm n (f n) v) (by rw [h.2.2.1]; exact hb) (by rw [h.2.2.2.1]; exact hfr) (fun n => bestStep_pos _ _ _ _ (hf n))
      (bind_best s frm f hb hfr hf hs v (hv v (by simp))) (fun u hu => hv u (by simp [hu])) num
theorem foldl_pos (frm num : Int) : ∀ (l : List VS) (m : Int), 0 ≤ m → 0 ≤ l.foldl (bestStep frm num) m
  | [], m, h => h
  | v :: r, m, h => foldl_pos frm num r _ (bestStep_pos _ _ _ _ h)
theorem foldl_lt (frm num : Int) : ∀ (l : List VS) (m : Int), m < 21 → l.foldl (bestStep frm num) m < 21
  | [], m, h => h
  | v :: r, m, h => foldl_lt frm num r _ (by unfold bestStep; split <;> omega)
theorem bestV_take (frm num : Int) (l : List VS) (i : Nat) (v : VS) (h : l[i]? = some v) : bestV frm num (l.take (i + 1)) = bestStep frm num (bestV frm num (l.take i)) v := by
  unfold bestV
  rw [List.take_add_one, h]
  simp [List.foldl_append]
/-- the leader behind the two promises -/
theorem binds_two (frm : Int) (l m : List VS) (hl : ∀ v ∈ l, goodV v) (hm : ∀ v ∈ m, goodV v) (s : LS) (hs : s = ⟨0, 1, 21, frm, 0, [], false, CS.zero, 0⟩) :
    ∃ s1 s2, s.promise 1 21 l = (false, 0, s1) ∧ s1.promise 2 21 m = (true, 0, s2) ∧ s1.id = 0 ∧ s1.ph = 1 ∧ s1.bal = 21 ∧ s1.prom = 2 ∧ s1.acc = 0 ∧ s2.ph = 2 ∧
      ∀ num, s2.boundOf num = if bestV frm num (l ++ m) = 0 then (CS.zero, false) else (⟨num, 1, [10 + bestV frm num (l ++ m)]⟩, true) := by
  subst hs
  obtain ⟨a1, a2, a3, a4, a5, a6, a7, a8⟩ := LS.binds_same l ⟨0, 1, 21, frm, 2, [], false, CS.zero, 0⟩
  have b1 := binds_best frm l ⟨0, 1, 21, frm, 2, [], false, CS.zero, 0⟩ (fun _ => 0) rfl rfl (fun _ => by omega) (fun _ => rfl) hl
  generalize hs1 : LS.binds ⟨0, 1, 21, frm, 2, [], false, CS.zero, 0⟩ l = s1 at *
  simp only at a1 a2 a3 a4 a5 a6 a7 a8
  obtain ⟨c1, c2, c3, c4, c5, c6, c7, c8⟩ := LS.binds_same m { s1 with prom := 6 }
  have b2 := binds_best frm m { s1 with prom := 6 } (fun num => l.foldl (bestStep frm num) 0) a3 a4 (fun num => foldl_pos _ _ _ _ (by omega)) b1 hm
  generalize hs2 : LS.binds { s1 with prom := 6 } m = s2 at *
  simp only at c1 c2 c3 c4 c5 c6 c7 c8
  refine ⟨s1, { s2 with ph := 2 }, ?_, ?_, a1, a2, a3, a5, a8, rfl, fun num => ?_⟩
  · unfold LS.promise
    rw [if_neg (by simp)]
    show (if 2 ≤ countOf (LS.binds ⟨0, 1, 21, frm, orB 0 1, [], false, CS.zero, 0⟩ l).prom then _ else _) = _
    rw [show orB 0 1 = 2 from rfl, hs1, a5, if_neg (by decide)]
  · unfold LS.promise
    rw [if_neg (by simp [a2, a3])]
    show (if 2 ≤ countOf (LS.binds { s1 with prom := orB s1.prom 2 } m).prom then _ else _) = _
    rw [a5, show orB 2 2 = 6 from rfl, hs2, c5, if_pos (by decide)]
  · have h := b2 num
    rw [← List.foldl_append] at h
    unfold LS.boundOf
    show (match findV s2.bound num with | none => (CS.zero, false) | some d => (d.c, true)) = _
    rw [h]
    show _ = if bestV frm num (l ++ m) = 0 then _ else _
    unfold bestV mkV voteOf
    by_cases e : List.foldl (bestStep frm num) 0 (l ++ m) = 0
    · rw [if_pos e, if_pos e]
    · rw [if_neg e, if_neg e]

/-- the cells of a list of votes -/
def voteCells (L : List (VS × Value)) : List Value := L.flatMap fun p => (voteA p.1 p.2).toList
theorem voteCells_length (L : List (VS × Value)) : (voteCells L).length = L.length * 4 := by
  induction L with
  | nil => rfl
  | cons p r ih => unfold voteCells at *; rw [List.flatMap_cons, List.length_append, ih]; simp [voteA]; omega
theorem voteCells_add (L : List (VS × Value)) (p : VS × Value) : voteCells (L ++ [p]) = voteCells L ++ (voteA p.1 p.2).toList := by simp [voteCells]
theorem voteCells_at (L : List (VS × Value)) (i j : Nat) (hj : j < 4) (p : VS × Value) (h : L[i]? = some p) : (voteCells L)[i * 4 + j]? = (voteA p.1 p.2)[j]? := by
  induction L generalizing i with
  | nil => simp at h
  | cons q r ih =>
    have hc : voteCells (q :: r) = (voteA q.1 q.2).toList ++ voteCells r := by simp [voteCells]
    have hl : (voteA q.1 q.2).toList.length = 4 := rfl
    rw [hc]
    cases i with
    | zero =>
      simp at h
      subst h
      rw [List.getElem?_append_left (by omega)]
      simp
    | succ i =>
      rw [List.getElem?_append_right (by omega), hl, show (i + 1) * 4 + j - 4 = i * 4 + j by omega]
      exact ih i (by simpa using h)

/-- v, appended to since w0, holds the votes L, whose chains lie in the blocks G -/
structure votesAre (w0 w : World) (v : Value) (L : List (VS × Value)) (G : List Nat) : Prop where
  own : owns w 78 4 v L.length (voteCells L)
  chains : ∀ p ∈ L, held w G p.2 p.1.c.chain
  new : ∀ y ∈ G, w0.heap.size ≤ y ∧ y < w.heap.size
  home : ∀ y ∈ homes v, w0.heap.size ≤ y ∧ y ∉ G
  kept : keepBut [] w0 w
  good : ∀ p ∈ L, goodV p.1
theorem votesAre.nil (w : World) : votesAre w w (.slice none 0 0) [] [] :=
  ⟨owns.nil _ _ _, by simp, by simp, by simp [homes_none], keepBut.refl _ _, by simp⟩
theorem votesAre.over {w0 w w' : World} {v : Value} {L : List (VS × Value)} {G : List Nat} (h : votesAre w0 w v L G) (hk : keepBut [] w w') : votesAre w0 w' v L G :=
  ⟨h.own.keep hk (by simp), fun p hp => (h.chains p hp).keep hk (by simp), fun y hy => ⟨(h.new y hy).1, Nat.lt_of_lt_of_le (h.new y hy).2 hk.size⟩, h.home, h.kept.then hk (by simp), h.good⟩
/-- one vote more: its chain was made, its cells were laid, it was appended -/
theorem votesAre.add {w0 w w1 w2 w3 : World} {v v' cv : Value} {L : List (VS × Value)} {G G' : List Nat} {d : VS} (h : votesAre w0 w v L G) (hd : goodV d)
    (hh : held w1 G' cv d.c.chain) (hG : ∀ y ∈ G', w.heap.size ≤ y ∧ y < w1.heap.size) (hk : keepBut [] w w1) (hk2 : keepBut [] w1 w2)
    (ho : owns w3 78 4 v' (L.length + 1) (voteCells L ++ [.int .i64 d.bal, .int .i64 d.c.num, .int .i64 d.c.full, cv])) (hk3 : keepBut (homes v) w2 w3) (hm : ∀ x ∈ homes v', x ∈ homes v ∨ w2.heap.size ≤ x) :
    votesAre w0 w3 v' (L ++ [(d, cv)]) (G' ++ G) := by
  have hlt := h.own.lt
  refine ⟨by rw [voteCells_add, List.length_append]; exact ho, fun p hp => ?_, fun y hy => ?_, fun y hy => ?_, ((h.kept.then hk (by simp)).then hk2 (by simp)).then hk3 (fun y hy => .inr (h.home y hy).1), fun p hp => ?_⟩
  · have hG2 : ∀ y ∈ G', y ∉ homes v := fun y hy hm => by have := hlt y hm; have := (hG y hy).1; omega
    have hG3 : ∀ y ∈ G, y ∉ homes v := fun y hy hm => (h.home y hm).2 hy
    rcases List.mem_append.1 hp with hp | hp
    · exact ((((h.chains p hp).keep hk (by simp)).keep hk2 (by simp)).keep hk3 hG3).more (fun y hy => List.mem_append.2 (.inr hy))
    · simp at hp; subst hp
      exact ((hh.keep hk2 (by simp)).keep hk3 hG2).more (fun y hy => List.mem_append.2 (.inl hy))
  · have s2 := hk.size; have s3 := hk2.size; have s4 := hk3.size; have s5 := h.kept.size
    rcases List.mem_append.1 hy with hy | hy
    · have := hG y hy; omega
    · have := h.new y hy; omega
  · have s2 := hk.size; have s3 := hk2.size; have s5 := h.kept.size
    rcases hm y hy with hy | hy
    · refine ⟨(h.home y hy).1, fun hm => ?_⟩
      rcases List.mem_append.1 hm with hm | hm
      · have := hlt y hy; have := (hG y hm).1; omega
      · exact (h.home y hy).2 hm
    · refine ⟨by omega, fun hm => ?_⟩
      rcases List.mem_append.1 hm with hm | hm
      · have := (hG y hm).2; omega
      · have := (h.new y hm).2; omega
  · rcases List.mem_append.1 hp with hp | hp
    · exact h.good p hp
    · simp at hp; subst hp; exact hd
/-- some of them in a row, as Promise is handed them -/
theorem votesAre.part {w0 w : World} {v : Value} {L : List (VS × Value)} {G : List Nat} (h : votesAre w0 w v L G) (hl : L.length ≤ 12) :
    ∃ A c, v = .slice A L.length c ∧ L.length ≤ c ∧ c ≤ maxLen ∧ (A = none → L = [] ∧ c = 0) ∧ (∀ a, A = some a → ∃ g, a = ⟨g, 0, none⟩ ∧ ∀ k l c' A', k ≤ L.length → l = ((L.drop k).map (·.1)) → l.length ≤ c' → c' ≤ maxLen → (l ≠ [] → A' = some ⟨g, k * 4, none⟩) →
      ∀ n, n ≤ l.length → votesV w (homes v ++ G) (.slice A' n c') (l.take n)) := by
  rcases h.own.2 with ⟨rfl, h0⟩ | ⟨g, cap, cur, rfl, hr, h1, h2, h3, h4⟩
  · refine ⟨none, 0, by rw [h0], by omega, by simp [maxLen], fun _ => ⟨List.length_eq_zero_iff.1 h0, rfl⟩, by simp⟩
  · refine ⟨_, cap, rfl, h1, h2, by simp, fun a ha => ⟨g, by simpa using ha.symm, fun k l c' A' hk hle hlc hcm hA n hn => ?_⟩⟩
    subst hle
    have hcell : ∀ i p, L[i]? = some p → ∀ j, j < 4 → w.cell? ⟨g, i * 4 + j, none⟩ = (voteA p.1 p.2)[j]? := fun i p hp j hj => by
      rw [hr.cell, ← voteCells_at L i j hj p hp, ← h4, List.getElem?_take, if_pos (by
        have : i < L.length := by
          rcases Nat.lt_or_ge i L.length with q | q
          · exact q
          · rw [List.getElem?_eq_none (by omega)] at hp; cases hp
        omega)]
      simp
    refine ⟨A', c', by congr 1; rw [List.length_take]; omega, by rw [List.length_take]; omega, hcm, by rw [List.length_take]; simp at hn ⊢; omega, fun hne => ⟨g, k * 4, hA (by rintro e; rw [e] at hne; simp at hne), hr.lt, by simp [homes_some], fun i d hd => ?_⟩⟩
    rw [List.getElem?_take] at hd
    split at hd
    · rw [List.getElem?_map, List.getElem?_drop] at hd
      cases hp : L[k + i]? with
      | none => rw [hp] at hd; cases hd
      | some p =>
        rw [hp] at hd; simp at hd; subst hd
        refine ⟨p.2, (h.chains p (List.mem_of_getElem? hp)).more (fun y hy => List.mem_append.2 (.inr hy)), ?_, ?_, ?_, ?_⟩
        · have := hcell _ _ hp 0 (by omega); rw [show k * 4 + i * 4 = (k + i) * 4 + 0 by omega]; exact this
        · have := hcell _ _ hp 1 (by omega); rw [show k * 4 + i * 4 + 1 = (k + i) * 4 + 1 by omega]; exact this
        · have := hcell _ _ hp 2 (by omega); rw [show k * 4 + i * 4 + 2 = (k + i) * 4 + 2 by omega]; exact this
        · have := hcell _ _ hp 3 (by omega); rw [show k * 4 + i * 4 + 3 = (k + i) * 4 + 3 by omega]; exact this
    · cases hd
/-- the first nn of them -/
theorem votesAre.first {w0 w : World} {A : Option Addr} {i c : Nat} {L : List (VS × Value)} {G : List Nat} (h : votesAre w0 w (.slice A i c) L G) (hl : L.length = i) (h12 : i ≤ 12) (nn : Nat) (hnn : nn ≤ i) :
    votesV w (homes (.slice A i c) ++ G) (.slice A nn c) ((L.map (·.1)).take nn) := by
  subst hl
  obtain ⟨A2, c2, he, q1, q2, q3, q4⟩ := h.part h12
  obtain ⟨rfl, rfl⟩ : A = A2 ∧ c = c2 := by injection he with e1 e2 e3; exact ⟨e1, e3⟩
  cases A with
  | none =>
    obtain ⟨rfl, rfl⟩ := q3 rfl
    obtain rfl : nn = 0 := by simpa using hnn
    exact votesV.nil _ _
  | some a =>
    obtain ⟨g, rfl, hg⟩ := q4 _ rfl
    exact hg 0 (L.map (·.1)) c (some ⟨g, 0, Option.none⟩) (by omega) (by simp) (by simpa using q1) q2 (fun _ => by simp) nn (by simpa using hnn)
theorem votesAre.rest {w0 w : World} {g i c : Nat} {L : List (VS × Value)} {G : List Nat} (h : votesAre w0 w (.slice (some ⟨g, 0, none⟩) i c) L G) (hl : L.length = i) (h12 : i ≤ 12) (nn : Nat) (hnn : nn ≤ i) (A' : Option Addr) (hA : nn < i → A' = some ⟨g, nn * 4, none⟩) :
    votesV w (homes (.slice (some ⟨g, 0, none⟩) i c) ++ G) (.slice A' (i - nn) (c - nn)) ((L.map (·.1)).drop nn) := by
  subst hl
  obtain ⟨A2, c2, he, q1, q2, q3, q4⟩ := h.part h12
  obtain ⟨rfl, rfl⟩ : A2 = some ⟨g, 0, none⟩ ∧ c = c2 := by injection he with e1 e2 e3; exact ⟨e1.symm, e3⟩
  obtain ⟨g', hgg, hg⟩ := q4 _ rfl
  obtain rfl : g = g' := by injection hgg
  have := hg nn ((L.drop nn).map (·.1)) (c - nn) A' hnn rfl (by simp; omega) (by omega) (fun hne => hA (by
    rcases Nat.lt_or_ge nn L.length with q | q
    · exact q
    · rw [List.drop_eq_nil_of_le q] at hne; simp at hne)) (L.length - nn) (by simp)
  rw [List.take_of_length_le (by simp)] at this
  rw [← List.map_drop]
  exact this
theorem votesAre.none {w0 w : World} {i c : Nat} {L : List (VS × Value)} {G : List Nat} (h : votesAre w0 w (.slice none i c) L G) (hl : L.length = i) (h12 : i ≤ 12) : i = 0 ∧ c = 0 ∧ L = [] := by
  subst hl
  obtain ⟨A2, c2, he, q1, q2, q3, q4⟩ := h.part h12
  obtain ⟨rfl, rfl⟩ : A2 = Option.none ∧ c = c2 := by injection he with e1 e2 e3; exact ⟨e1.symm, e3⟩
  obtain ⟨rfl, rfl⟩ := q3 rfl
  exact ⟨rfl, rfl, rfl⟩
theorem votesAre.zero {w0 w : World} {a : Addr} {i c : Nat} {L : List (VS × Value)} {G : List Nat} (h : votesAre w0 w (.slice (some a) i c) L G) (hl : L.length = i) (h12 : i ≤ 12) : ∃ g, a = ⟨g, 0, Option.none⟩ := by
  subst hl
  obtain ⟨A2, c2, he, q1, q2, q3, q4⟩ := h.part h12
  obtain ⟨rfl, rfl⟩ : A2 = some a ∧ c = c2 := by injection he with e1 e2 e3; exact ⟨e1.symm, e3⟩
  obtain ⟨g', hgg, hg⟩ := q4 _ rfl
  exact ⟨g', hgg⟩
/-- one of them is looked at -/
theorem votesAre.cell {w0 w : World} {A : Option Addr} {i c : Nat} {L : List (VS × Value)} {G : List Nat} (h : votesAre w0 w (.slice A i c) L G) (hl : L.length = i) (h12 : i ≤ 12) (j : Nat) (hj : j < i) :
    ∃ g v, A = some ⟨g, 0, Option.none⟩ ∧ (L.map (·.1))[j]? = some v ∧ goodV v ∧ w.cell? ⟨g, j * 4, Option.none⟩ = some (.int .i64 v.bal) ∧ w.cell? ⟨g, j * 4 + 1, Option.none⟩ = some (.int .i64 v.c.num) := by
  cases A with
  | none => have := h.none hl h12; omega
  | some a =>
    obtain ⟨g, rfl⟩ := h.zero hl h12
    obtain ⟨A2, c2, he, _, _, _, q⟩ := h.first hl h12 i (by omega)
    rw [List.take_of_length_le (by simp; omega)] at he q
    have hv : (L.map (·.1))[j]? = some (L[j]'(by omega)).1 := by simp [List.getElem?_eq_getElem (show j < L.length by omega)]
    obtain ⟨g', o, hA, _, _, hc⟩ := q (by intro e; rw [e] at hv; simp at hv)
    obtain ⟨rfl, rfl⟩ : g = g' ∧ o = 0 := by
      injection he with e1
      rw [← e1] at hA
      injection hA with e2
      injection e2 with e3 e4
      exact ⟨e3, e4.symm⟩
    obtain ⟨cv, _, b0, b1, _⟩ := hc j _ hv
    exact ⟨g, _, rfl, hv, h.good _ (List.getElem_mem _), by simpa using b0, by simpa using b1⟩
/-- the leader did something meanwhile -/
theorem votesAre.move {S : List Nat} {w0 w00 w w' : World} {v : Value} {L : List (VS × Value)} {G : List Nat} (h : votesAre w0 w v L G) (hk : keepBut S w w') (hS : ∀ y ∈ homes v ++ G, y ∉ S) (hle : w00.heap.size ≤ w0.heap.size) (hk0 : keepBut [] w00 w') : votesAre w00 w' v L G :=
  ⟨h.own.keep hk (fun y hy => hS y (List.mem_append.2 (.inl hy))), fun p hp => (h.chains p hp).keep hk (fun y hy => hS y (List.mem_append.2 (.inr hy))), fun y hy => ⟨Nat.le_trans hle (h.new y hy).1, Nat.lt_of_lt_of_le (h.new y hy).2 hk.size⟩, fun y hy => ⟨Nat.le_trans hle (h.home y hy).1, (h.home y hy).2⟩, hk0, h.good⟩
theorem lOn.step2 {w0 w w' : World} {p : Nat} {F : List Nat} {s s' : LS} (h : lOn w0 w p F s) (hl : lPost p F s' w w') : ∃ F', lOn w0 w' p F' s' ∧ keepBut F w w' ∧ ∀ y ∈ F', y ∈ F ∨ w.heap.size ≤ y := by
  obtain ⟨F', a, b, c⟩ := hl
  refine ⟨F', ⟨a, fun y hy => ?_, h.2.2.then b (fun y hy => .inr (h.2.1 y hy))⟩, b, c⟩
  rcases c y hy with h1 | h1
  · exact h.2.1 y h1
  · exact Nat.le_trans h.2.2.size h1
theorem boundPost.held {c : CS} {b : Bool} {w w' : World} {e : Ending} (h : boundPost c b w e w') : ∃ A n G, e = .returned (.tuple #[.agg #[.int .i64 c.num, .int .i64 c.full, .slice A c.chain.length n], .bool b]) ∧ held w' G (.slice A c.chain.length n) c.chain ∧ keepBut [] w w' := by
  obtain ⟨cv, he, G, hh, hG, hk⟩ := h
  obtain ⟨A, n, g, rfl, h2⟩ := id hh
  exact ⟨A, n, G, he, hh, hk⟩
theorem votesAre.goods {w0 w : World} {v : Value} {L : List (VS × Value)} {G : List Nat} (h : votesAre w0 w v L G) : ∀ u ∈ L.map (·.1), goodV u := fun u hu => by
  obtain ⟨p, hp, rfl⟩ := List.mem_map.1 hu
  exact h.good p hp
end Go.Proofs.Ytbjonlfjfjlelaa
