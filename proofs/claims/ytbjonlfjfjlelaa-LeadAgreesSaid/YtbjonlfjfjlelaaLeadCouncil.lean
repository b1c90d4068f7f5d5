/-
  LEAD: the law's own council: three leaders, three masters' memories, in one block.
-/
import Derived.Test.YtbjonlfjfjlelaaLeadCrew
import Derived.Test.YtbjonlfjfjlelaaLeadAgreesPure
namespace Go.Proofs.Ytbjonlfjfjlelaa
open Go.RowKit
set_option linter.unusedVariables false
set_option maxRecDepth 100000

theorem crew.sub {n : Nat} {w0 w : World} {p : Nat → Nat} {F : Nat → List Nat} {s : Nat → LS} {G G' : List Nat} (h : crew n w0 w p F s G) (hG : ∀ y ∈ G', y ∈ G) : crew n w0 w p F s G' :=
  ⟨h.is, h.new, h.apart, fun i hi y hy hm => h.own i hi y hy (hG y hm), fun y hy => h.blocks y (hG y hy), h.kept⟩
theorem crew.own_more {n : Nat} {w0 w w' : World} {p : Nat → Nat} {F : Nat → List Nat} {s : Nat → LS} {G E : List Nat} (h : crew n w0 w p F s G) (hk : keepBut [] w w') (hE : ∀ y ∈ E, w.heap.size ≤ y ∧ y < w'.heap.size) : crew n w0 w' p F s (E ++ G) := by
  have h' := h.over hk
  refine ⟨h'.is, h'.new, h'.apart, fun i hi y hy hm => ?_, fun y hy => ?_, h'.kept⟩
  · rcases List.mem_append.1 hm with hm | hm
    · have := (h.is i hi).lt y hy; have := (hE y hm).1; omega
    · exact h.own i hi y hy hm
  · rcases List.mem_append.1 hy with hy | hy
    · exact ⟨Nat.le_trans h.kept.size (hE y hy).1, (hE y hy).2⟩
    · exact h'.blocks y hy

def ptO (n : Nat) (p : Nat → Nat) (i : Nat) : Value := if i < n then .pointer (some ⟨p i, 0, none⟩) else .pointer none
def cN (b : Int) : Int := if b = 0 then 0 else 1
def chOf (b x : Int) : List Int := if b = 0 then [] else [x]
def rowCo (n : Nat) (p : Nat → Nat) (P B : Nat → Int) (cv : Nat → Value) (ch : Int) : Array Value :=
  #[ptO n p 0, ptO n p 1, ptO n p 2,
    .int .i64 (P 0), .int .i64 (B 0), .int .i64 (cN (B 0)), .int .i64 (cN (B 0)), cv 0,
    .int .i64 (P 1), .int .i64 (B 1), .int .i64 (cN (B 1)), .int .i64 (cN (B 1)), cv 1,
    .int .i64 (P 2), .int .i64 (B 2), .int .i64 (cN (B 2)), .int .i64 (cN (B 2)), cv 2,
    .int .i64 ch]
theorem rowCo_pt (n : Nat) (p : Nat → Nat) (P B : Nat → Int) (cv : Nat → Value) (ch : Int) (k : Nat) (h : k < 3) : (rowCo n p P B cv ch)[k]? = some (ptO n p k) := by
  match k, h with
  | 0, _ => rfl
  | 1, _ => rfl
  | 2, _ => rfl
theorem rowCo_v (n : Nat) (p : Nat → Nat) (P B : Nat → Int) (cv : Nat → Value) (ch : Int) (k : Nat) (h : k < 3) :
    (rowCo n p P B cv ch)[3 + k * 5]? = some (.int .i64 (P k)) ∧ (rowCo n p P B cv ch)[3 + k * 5 + 1]? = some (.int .i64 (B k)) ∧ (rowCo n p P B cv ch)[3 + k * 5 + 2]? = some (.int .i64 (cN (B k))) ∧
    (rowCo n p P B cv ch)[3 + k * 5 + 3]? = some (.int .i64 (cN (B k))) ∧ (rowCo n p P B cv ch)[3 + k * 5 + 4]? = some (cv k) := by
  match k, h with
  | 0, _ => exact ⟨rfl, rfl, rfl, rfl, rfl⟩
  | 1, _ => exact ⟨rfl, rfl, rfl, rfl, rfl⟩
  | 2, _ => exact ⟨rfl, rfl, rfl, rfl, rfl⟩
theorem rowCo_setP (n : Nat) (p : Nat → Nat) (P B : Nat → Int) (cv : Nat → Value) (ch : Int) (k : Nat) (h : k < 3) (b : Int) : (rowCo n p P B cv ch).setIfInBounds (3 + k * 5) (.int .i64 b) = rowCo n p (upd P k b) B cv ch := by
  match k, h with
  | 0, _ => simp [rowCo, upd]
  | 1, _ => simp [rowCo, upd]
  | 2, _ => simp [rowCo, upd]
theorem rowCo_setCh (n : Nat) (p : Nat → Nat) (P B : Nat → Int) (cv : Nat → Value) (ch c : Int) : (rowCo n p P B cv ch).setIfInBounds 18 (.int .i64 c) = rowCo n p P B cv c := by
  simp [rowCo]
theorem rowCo_setPt (n : Nat) (p : Nat → Nat) (P B : Nat → Int) (cv : Nat → Value) (ch : Int) (q : Nat) (h : n < 3) : (rowCo n p P B cv ch).setIfInBounds n (.pointer (some ⟨q, 0, none⟩)) = rowCo (n + 1) (fun i => if i = n then q else p i) P B cv ch := by
  match n, h with
  | 0, _ => simp [rowCo, ptO]
  | 1, _ => simp [rowCo, ptO]
  | 2, _ => simp [rowCo, ptO]
theorem rowCo_vote (n : Nat) (p : Nat → Nat) (P B : Nat → Int) (cv : Nat → Value) (ch : Int) (k : Nat) (h : k < 3) (b : Int) (hb : b ≠ 0) (v : Value) :
    (((((rowCo n p P B cv ch).setIfInBounds (3 + k * 5) (.int .i64 b)).setIfInBounds (3 + k * 5 + 1) (.int .i64 b)).setIfInBounds (3 + k * 5 + 2) (.int .i64 1)).setIfInBounds (3 + k * 5 + 3) (.int .i64 1)).setIfInBounds (3 + k * 5 + 4) v = rowCo n p (upd P k b) (upd B k b) (upd cv k v) ch := by
  have hc : cN b = 1 := if_neg hb
  match k, h with
  | 0, _ => simp [rowCo, upd, hc]
  | 1, _ => simp [rowCo, upd, hc]
  | 2, _ => simp [rowCo, upd, hc]

/-- block g is the council of the first n leaders; E: other blocks of the law's own -/
def councilAt (n : Nat) (w0 w : World) (g : Nat) (p : Nat → Nat) (F : Nat → List Nat) (s : Nat → LS) (P B X : Nat → Int) (ch : Int) (E : List Nat) : Prop :=
  ∃ (cv : Nat → Value) (Gv : List Nat), crew n w0 w p F s (g :: (E ++ Gv)) ∧ rowAt w g 83 (rowCo n p P B cv ch) ∧ (∀ k, k < 3 → held w Gv (cv k) (chOf (B k) (X k))) ∧ g ∉ Gv ∧ g ∉ E ∧ ∀ y ∈ E, y ∉ Gv
section
variable {n : Nat} {w0 w w' : World} {g : Nat} {p : Nat → Nat} {F : Nat → List Nat} {s : Nat → LS} {P B X : Nat → Int} {ch : Int} {E : List Nat}
theorem councilAt.kept (h : councilAt n w0 w g p F s P B X ch E) : keepBut [] w0 w := by obtain ⟨cv, Gv, h1, _⟩ := h; exact h1.kept
theorem councilAt.is (h : councilAt n w0 w g p F s P B X ch E) (i : Nat) (hi : i < n) : isL w (p i) (F i) (s i) := by obtain ⟨cv, Gv, h1, _⟩ := h; exact h1.is i hi
theorem councilAt.over (h : councilAt n w0 w g p F s P B X ch E) (hk : keepBut [] w w') : councilAt n w0 w' g p F s P B X ch E := by
  obtain ⟨cv, Gv, h1, h2, h3, h4⟩ := h
  exact ⟨cv, Gv, h1.over hk, hk.row h2 (by simp), fun k q => (h3 k q).keep hk (by simp), h4⟩
theorem councilAt.more {E' : List Nat} (h : councilAt n w0 w g p F s P B X ch E) (hk : keepBut [] w w') (hE : ∀ y ∈ E', w.heap.size ≤ y ∧ y < w'.heap.size) : councilAt n w0 w' g p F s P B X ch (E' ++ E) := by
  obtain ⟨cv, Gv, h1, h2, h3, h4, h5, h6⟩ := h
  refine ⟨cv, Gv, (h1.own_more hk hE).sub (fun y hy => ?_), hk.row h2 (by simp), fun k q => (h3 k q).keep hk (by simp), h4, fun hm => ?_, fun y hy hm => ?_⟩
  · simp at hy ⊢
    rcases hy with q | q | q | q
    · exact .inr (.inl q)
    · exact .inl q
    · exact .inr (.inr (.inl q))
    · exact .inr (.inr (.inr q))
  · rcases List.mem_append.1 hm with hm | hm
    · have := (hE g hm).1; have := h2.lt; omega
    · exact h5 hm
  · rcases List.mem_append.1 hy with q | q
    · have := (hE y q).1; have := (h1.blocks y (by simp [hm])).2; omega
    · exact h6 y q hm
theorem councilAt.drop (h : councilAt n w0 w g p F s P B X ch E) : councilAt n w0 w g p F s P B X ch [] := by
  obtain ⟨cv, Gv, h1, h2, h3, h4, h5⟩ := h
  exact ⟨cv, Gv, h1.sub (fun y hy => by simp at hy ⊢; rcases hy with q | q <;> simp [q]), h2, h3, h4, by simp, by simp⟩
theorem councilAt.sub {E' : List Nat} (h : councilAt n w0 w g p F s P B X ch E) (hE : ∀ y ∈ E', y ∈ E) : councilAt n w0 w g p F s P B X ch E' := by
  obtain ⟨cv, Gv, h1, h2, h3, h4, h5, h6⟩ := h
  refine ⟨cv, Gv, h1.sub (fun y hy => ?_), h2, h3, h4, fun hm => h5 (hE g hm), fun y hy => h6 y (hE y hy)⟩
  simp at hy ⊢
  rcases hy with q | q | q
  · exact .inl q
  · exact .inr (.inl (hE y q))
  · exact .inr (.inr q)
/-- a block of the law's own is written -/
theorem councilAt.store {q : Nat} (h : councilAt n w0 w g p F s P B X ch E) (hq : q ∈ E) (hk : keepBut [q] w w') : councilAt n w0 w' g p F s P B X ch E := by
  obtain ⟨cv, Gv, h1, h2, h3, h4, h5, h6⟩ := h
  exact ⟨cv, Gv, h1.poke (by simp [hq]) hk, hk.row h2 (fun hm => h5 (by rw [List.mem_singleton.1 hm]; exact hq)), fun k hk3 => (h3 k hk3).keep hk (fun y hy hm => h6 q hq (by rw [← List.mem_singleton.1 hm]; exact hy)), h4, h5, h6⟩
theorem councilAt.out {q : Nat} (h : councilAt n w0 w g p F s P B X ch E) (hq : q ∈ E) (k : Nat) (hk : k < n) : q ∉ F k := fun hm => by
  obtain ⟨cv, Gv, h1, _⟩ := h
  exact h1.own k hk q hm (by simp [hq])
theorem councilAt.notg {q : Nat} (h : councilAt n w0 w g p F s P B X ch E) (hq : q ∈ E) : q ≠ g := fun hm => by
  obtain ⟨cv, Gv, h1, h2, h3, h4, h5, h6⟩ := h
  exact h5 (hm ▸ hq)
theorem councilAt.l {k : Nat} {s' : LS} (h : councilAt n w0 w g p F s P B X ch E) (hk : k < n) (hl : lPost (p k) (F k) s' w w') : ∃ F', councilAt n w0 w' g p F' (upd s k s') P B X ch E ∧ keepBut (F k) w w' := by
  obtain ⟨cv, Gv, h1, h2, h3, h4, h5⟩ := h
  obtain ⟨F', h6, h7⟩ := h1.l hk hl
  refine ⟨_, ⟨cv, Gv, h6, h1.row hk (by simp) h7 h2, fun j q => (h3 j q).keep h7 (fun y hy hm => h1.own k hk y hm (by simp [hy])), h4, h5⟩, h7⟩
theorem councilAt.ww {k : Nat} {s' : LS} {v : Value} {e : Ending} (h : councilAt n w0 w g p F s P B X ch E) (hk : k < n) (hl : wPost (p k) (F k) s' v w e w') : e = .returned v ∧ ∃ F', councilAt n w0 w' g p F' (upd s k s') P B X ch E ∧ keepBut (F k) w w' :=
  ⟨hl.1, h.l hk (lPost.of_w hl (h.is k hk).mem).2⟩
/-- a leader proposes: what comes back lies in new blocks -/
theorem councilAt.prop {k : Nat} {s' : LS} {c : CS} {er : Int} {e : Ending} (h : councilAt n w0 w g p F s P B X ch E) (hk : k < n) (hl : propPost (p k) (F k) s' c er w e w') :
    ∃ A m G F', e = .returned (.tuple #[.agg #[.int .i64 c.num, .int .i64 c.full, .slice A c.chain.length m], .int .i64 er]) ∧ councilAt n w0 w' g p F' (upd s k s') P B X ch (G ++ E) ∧ held w' G (.slice A c.chain.length m) c.chain ∧ keepBut (F k) w w' ∧ (∀ y ∈ G, w.heap.size ≤ y) := by
  obtain ⟨cv0, F1, G, he, a1, a2, a3, a4, a5⟩ := hl
  obtain ⟨A, m, gg, rfl, a6⟩ := id a4
  obtain ⟨cv, Gv, h1, h2, h3, h4, h5, h6⟩ := h
  have hs : ∀ i, i < n → i ≠ k → ∀ y ∈ F i, y ∉ F1 := fun i hi hne y hy hm => by
    rcases a3 y hm with q | q
    · exact h1.apart i hi k hk hne y hy q
    · have := (h1.is i hi).lt y hy; omega
  refine ⟨A, m, G, fun i => if i = k then F1 else F i, he, ⟨cv, Gv, ⟨fun i hi => ?_, fun i hi y hy => ?_, fun i hi j hj hne y hy hm => ?_, fun i hi y hy hm => ?_, fun y hy => ?_, h1.kept.then a2 (fun y hy => .inr (h1.new k hk y hy))⟩, h1.row hk (by simp) a2 h2, fun j q => (h3 j q).keep a2 (fun y hy hm => h1.own k hk y hm (by simp [hy])), h4, fun hm => ?_, fun y hy hm => ?_⟩, a4, a2, fun y hy => (a5 y hy).1⟩
  · by_cases e : i = k
    · subst e; rw [upd_at]; simpa using a1
    · rw [upd_ne _ _ e]; simpa [e] using (h1.is i hi).keep a2 (h1.apart i hi k hk e)
  · by_cases e : i = k
    · rw [if_pos e] at hy
      rcases a3 y hy with q | q
      · exact h1.new k hk y q
      · exact Nat.le_trans h1.kept.size q
    · rw [if_neg e] at hy; exact h1.new i hi y hy
  · by_cases e : i = k
    · by_cases e2 : j = k
      · exact hne (e.trans e2.symm)
      · rw [if_pos e] at hy; rw [if_neg e2] at hm; exact hs j hj e2 y hm hy
    · by_cases e2 : j = k
      · rw [if_neg e] at hy; rw [if_pos e2] at hm; exact hs i hi e y hy hm
      · rw [if_neg e] at hy; rw [if_neg e2] at hm; exact h1.apart i hi j hj hne y hy hm
  · have hG : y ∈ G → False := fun q => by
      have q2 := a5 y q
      by_cases e : i = k
      · rw [if_pos e] at hy; exact q2.2.2 hy
      · rw [if_neg e] at hy; have := (h1.is i hi).lt y hy; omega
    have hold : y ∈ g :: (E ++ Gv) → False := fun q => by
      by_cases e : i = k
      · rw [if_pos e] at hy
        rcases a3 y hy with q2 | q2
        · exact h1.own k hk y q2 q
        · have := (h1.blocks y q).2; omega
      · rw [if_neg e] at hy; exact h1.own i hi y hy q
    simp at hm
    rcases hm with q | q | q | q
    · exact hold (by simp [q])
    · exact hG q
    · exact hold (by simp [q])
    · exact hold (by simp [q])
  · have hold : y ∈ g :: (E ++ Gv) → w0.heap.size ≤ y ∧ y < w'.heap.size := fun q => ⟨(h1.blocks y q).1, Nat.lt_of_lt_of_le (h1.blocks y q).2 a2.size⟩
    simp at hy
    rcases hy with q | q | q | q
    · exact hold (by simp [q])
    · exact ⟨Nat.le_trans h1.kept.size (a5 y q).1, (a5 y q).2.1⟩
    · exact hold (by simp [q])
    · exact hold (by simp [q])
  · rcases List.mem_append.1 hm with q | q
    · have := (a5 g q).1; have := h2.lt; omega
    · exact h5 q
  · rcases List.mem_append.1 hy with q | q
    · have := (a5 y q).1; have := (h1.blocks y (by simp [hm])).2; omega
    · exact h6 y q hm
theorem councilAt.pt (h : councilAt n w0 w g p F s P B X ch E) (k : Nat) (hk : k < 3) (hn : k < n) : w.cell? ⟨g, k, none⟩ = some (.pointer (some ⟨p k, 0, none⟩)) := by
  obtain ⟨cv, Gv, h1, h2, _⟩ := h
  rw [h2.cell, rowCo_pt _ _ _ _ _ _ k hk]
  unfold ptO
  rw [if_pos hn]
theorem councilAt.free (h : councilAt n w0 w g p F s P B X ch E) (o : Nat) : w.frozen? ⟨g, o, none⟩ = false := by
  obtain ⟨cv, Gv, h1, h2, _⟩ := h
  exact h2.free o
theorem councilAt.cells (h : councilAt n w0 w g p F s P B X ch E) (k : Nat) (hk : k < 3) : w.cell? ⟨g, 3 + k * 5, none⟩ = some (.int .i64 (P k)) ∧ w.cell? ⟨g, 3 + k * 5 + 1, none⟩ = some (.int .i64 (B k)) ∧
    w.cell? ⟨g, 3 + k * 5 + 2, none⟩ = some (.int .i64 (cN (B k))) ∧ w.cell? ⟨g, 3 + k * 5 + 3, none⟩ = some (.int .i64 (cN (B k))) ∧
    ∃ A c Gv, w.cell? ⟨g, 3 + k * 5 + 4, none⟩ = some (.slice A (chOf (B k) (X k)).length c) ∧ held w Gv (.slice A (chOf (B k) (X k)).length c) (chOf (B k) (X k)) ∧ ∀ y ∈ Gv, y < w.heap.size ∧ ∀ i, i < n → y ∉ F i := by
  obtain ⟨cv, Gv, h1, h2, h3, _⟩ := h
  obtain ⟨r1, r2, r3, r4, r5⟩ := rowCo_v n p P B cv ch k hk
  have h4 := h3 k hk
  obtain ⟨A, c, gg, hc, h5⟩ := id h4
  refine ⟨by rw [h2.cell]; exact r1, by rw [h2.cell]; exact r2, by rw [h2.cell]; exact r3, by rw [h2.cell]; exact r4, A, c, Gv, by rw [h2.cell, r5, hc], hc ▸ h4, fun y hy => ⟨(h1.blocks y (by simp [hy])).2, fun i hi hm => h1.own i hi y hm (by simp [hy])⟩⟩
theorem councilAt.chose (h : councilAt n w0 w g p F s P B X ch E) : w.cell? ⟨g, 18, none⟩ = some (.int .i64 ch) := by
  obtain ⟨cv, Gv, h1, h2, _⟩ := h
  rw [h2.cell]; rfl
/-- the council's own cells are turned -/
theorem councilAt.poke {P' B' X' : Nat → Int} {ch' : Int} (Ex E2 : List Nat) (hE : E = Ex ++ E2) (hd : ∀ y ∈ E2, y ∉ Ex) (h : councilAt n w0 w g p F s P B X ch E) (hk : keepBut [g] w w')
    (hr : ∀ cv, rowAt w g 83 (rowCo n p P B cv ch) → ∃ cv', rowAt w' g 83 (rowCo n p P' B' cv' ch') ∧ ∀ k, k < 3 → (cv' k = cv k ∧ chOf (B' k) (X' k) = chOf (B k) (X k)) ∨ held w Ex (cv' k) (chOf (B' k) (X' k))) :
    councilAt n w0 w' g p F s P' B' X' ch' E2 := by
  subst hE
  obtain ⟨cv, Gv, h1, h2, h3, h4, h5, h6⟩ := h
  obtain ⟨cv', r1, r2⟩ := hr cv h2
  refine ⟨cv', Ex ++ Gv, (h1.poke (by simp) hk).sub (fun y hy => by simp at hy ⊢; rcases hy with q | q | q | q <;> simp [q]), r1, fun k q => ?_, fun hm => ?_, fun hm => h5 (List.mem_append.2 (.inr hm)), fun y hy hm => ?_⟩
  · rcases r2 k q with ⟨q1, q2⟩ | q1
    · rw [q1, q2]; exact ((h3 k q).keep hk (fun y hy hm => h4 (by rw [← List.mem_singleton.1 hm]; exact hy))).more (fun y hy => List.mem_append.2 (.inr hy))
    · exact (q1.keep hk (fun y hy hm => h5 (by rw [← List.mem_singleton.1 hm]; exact List.mem_append.2 (.inl hy)))).more (fun y hy => List.mem_append.2 (.inl hy))
  · rcases List.mem_append.1 hm with q | q
    · exact h5 (List.mem_append.2 (.inl q))
    · exact h4 q
  · rcases List.mem_append.1 hm with q | q
    · exact hd y hy q
    · exact h6 y (List.mem_append.2 (.inr hy)) q
theorem councilAt.setP (h : councilAt n w0 w g p F s P B X ch E) (k : Nat) (hk : k < 3) (b : Int) : councilAt n w0 (w.setCell ⟨g, 3 + k * 5, none⟩ (.int .i64 b)) g p F s (upd P k b) B X ch E :=
  councilAt.poke [] E rfl (by simp) h ((keepBut.refl [g] w).setCell _ _ (by simp)) (fun cv hr => ⟨cv, by rw [← rowCo_setP _ _ _ _ _ _ k hk]; exact hr.set _ _, fun _ _ => .inl ⟨rfl, rfl⟩⟩)
theorem councilAt.setCh (h : councilAt n w0 w g p F s P B X ch E) (c : Int) : councilAt n w0 (w.setCell ⟨g, 18, none⟩ (.int .i64 c)) g p F s P B X c E :=
  councilAt.poke [] E rfl (by simp) h ((keepBut.refl [g] w).setCell _ _ (by simp)) (fun cv hr => ⟨cv, by rw [← rowCo_setCh _ _ _ _ _ ch]; exact hr.set _ _, fun _ _ => .inl ⟨rfl, rfl⟩⟩)
theorem councilAt.vote (Ex E2 : List Nat) (hE : E = Ex ++ E2) (hd : ∀ y ∈ E2, y ∉ Ex) (h : councilAt n w0 w g p F s P B X ch E) (k : Nat) (hk : k < 3) (b x : Int) (hb : b ≠ 0) (v : Value) (hv : held w Ex v [x]) :
    councilAt n w0 (((((w.setCell ⟨g, 3 + k * 5, none⟩ (.int .i64 b)).setCell ⟨g, 3 + k * 5 + 1, none⟩ (.int .i64 b)).setCell ⟨g, 3 + k * 5 + 2, none⟩ (.int .i64 1)).setCell ⟨g, 3 + k * 5 + 3, none⟩ (.int .i64 1)).setCell ⟨g, 3 + k * 5 + 4, none⟩ v)
      g p F s (upd P k b) (upd B k b) (upd X k x) ch E2 ∧
    keepBut [g] w (((((w.setCell ⟨g, 3 + k * 5, none⟩ (.int .i64 b)).setCell ⟨g, 3 + k * 5 + 1, none⟩ (.int .i64 b)).setCell ⟨g, 3 + k * 5 + 2, none⟩ (.int .i64 1)).setCell ⟨g, 3 + k * 5 + 3, none⟩ (.int .i64 1)).setCell ⟨g, 3 + k * 5 + 4, none⟩ v) := by
  have hkk : keepBut [g] w (((((w.setCell ⟨g, 3 + k * 5, none⟩ (.int .i64 b)).setCell ⟨g, 3 + k * 5 + 1, none⟩ (.int .i64 b)).setCell ⟨g, 3 + k * 5 + 2, none⟩ (.int .i64 1)).setCell ⟨g, 3 + k * 5 + 3, none⟩ (.int .i64 1)).setCell ⟨g, 3 + k * 5 + 4, none⟩ v) :=
    (((((keepBut.refl [g] w).setCell _ _ (by simp)).setCell _ _ (by simp)).setCell _ _ (by simp)).setCell _ _ (by simp)).setCell _ _ (by simp)
  refine ⟨councilAt.poke Ex E2 hE hd h hkk (fun cv hr => ⟨upd cv k v, by rw [← rowCo_vote _ _ _ _ _ _ k hk b hb]; exact ((((hr.set _ _).set _ _).set _ _).set _ _).set _ _, fun j hj => ?_⟩), hkk⟩
  by_cases e : j = k
  · subst e; refine .inr ?_; rw [upd_at, upd_at, upd_at]; unfold chOf; rw [if_neg hb]; exact hv
  · rw [upd_ne _ _ e, upd_ne _ _ e, upd_ne _ _ e]; exact .inl ⟨rfl, rfl⟩
end
/-- a vote in a list of one that was appended -/
theorem votes_owned {w : World} {G : List Nat} {A : Option Addr} {c : Nat} {d : VS} {cv : Value} (h : owns w 78 4 (.slice A 1 c) 1 [.int .i64 d.bal, .int .i64 d.c.num, .int .i64 d.c.full, cv]) (hh : held w G cv d.c.chain) :
    votesV w (homes (.slice A 1 c) ++ G) (.slice A 1 c) [d] := by
  rcases h.2 with ⟨h1, h2⟩ | ⟨g, cap, cur, h0, hr, h1, h2, h3, h4⟩
  · omega
  · injection h0 with e1 e2 e3
    subst e1 e3
    have hc : ∀ j, j < 4 → w.cell? ⟨g, j, none⟩ = [Value.int .i64 d.bal, .int .i64 d.c.num, .int .i64 d.c.full, cv][j]? := fun j hj => by
      rw [hr.cell, ← h4, List.getElem?_take, if_pos (by omega)]; simp
    refine ⟨_, _, rfl, h1, h2, by simp, fun _ => ⟨g, 0, rfl, hr.lt, by simp [homes_some], fun i d' hd => ?_⟩⟩
    match i, hd with
    | 0, hd =>
      obtain rfl : d = d' := by simpa using hd
      exact ⟨cv, hh.more (fun y hy => List.mem_append.2 (.inr hy)), hc 0 (by omega), hc 1 (by omega), hc 2 (by omega), hc 3 (by omega)⟩
end Go.Proofs.Ytbjonlfjfjlelaa
