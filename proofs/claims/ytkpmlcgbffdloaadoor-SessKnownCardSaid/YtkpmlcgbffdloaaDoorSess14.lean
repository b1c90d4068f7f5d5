/-
  SESS, 14: a config is learned.
-/
import Derived.Test.YtkpmlcgbffdloaaDoorSess13
namespace Go.Proofs.YtkpmlcgbffdloaaDoor
open Go.RowKit
set_option linter.unusedVariables false
set_option maxRecDepth 100000

def SS.setConf (s : SS) (c : CF) : SS := { s with conf := c }
def SS.learn (s : SS) (c : CF) : SS := if s.conf.num < c.num ∨ s.conf.chain = [] then (s.setConf c).setSent false else s
def learnPost (p q : Nat) (s : SS) (ev : Value) (F K : List Nat) (T : List (PK × List Value)) (w : World) (e : Ending) (w' : World) : Prop :=
  e = .returned (.tuple #[]) ∧ ∃ cv' G', isQ w' p q s cv' ev (F ++ G') K T ∧ newIn w w' G' ∧ keepBut [p] w w'
theorem ssL_conf (s : SS) {q : Nat} {cv cv' ev : Value} (c : CF) : putL (ssL s q cv ev).toArray 4 (cfL c cv') = (ssL (s.setConf c) q cv' ev).toArray := by
  have e1 : ssL s q cv ev = [.int .i64 s.client, .int .i64 s.limit, .int .i64 s.most, .chan (some q)] ++ ([.int .i64 s.conf.num, .int .i64 s.conf.full, cv] ++ ([.int .i64 s.next, .int .i64 s.last, .bool s.waits, .bool s.late] ++ (rqL s.req ev ++ [.int .i64 s.ticks, .bool s.sent]))) := rfl
  have e2 : ssL (s.setConf c) q cv' ev = [.int .i64 s.client, .int .i64 s.limit, .int .i64 s.most, .chan (some q)] ++ (cfL c cv' ++ ([.int .i64 s.next, .int .i64 s.last, .bool s.waits, .bool s.late] ++ (rqL s.req ev ++ [.int .i64 s.ticks, .bool s.sent]))) := rfl
  rw [e1, e2]
  exact putL_mid [.int .i64 s.client, .int .i64 s.limit, .int .i64 s.most, .chan (some q)] _ _ _ rfl
theorem isQ.conf {w : World} {p q : Nat} {s : SS} {cv ev : Value} {F K : List Nat} {T : List (PK × List Value)} (h : isQ w p q s cv ev F K T) {c : CF} {cv' : Value} {G : List Nat} (hr : intsV w G cv' c.chain) (hG : ∀ y ∈ G, y < w.heap.size ∧ y ≠ p ∧ y ≠ q) : isQ (w.setCells p 4 (cfL c cv')) p q (s.setConf c) cv' ev (F ++ G) K T ∧ keepBut [p] w (w.setCells p 4 (cfL c cv')) := by
  have hk : keepBut [p] w (w.setCells p 4 (cfL c cv')) := (keepBut.refl _ _).setL (.inl (by simp))
  have rr := h.row.setL (vs := cfL c cv') (o := 4)
  rw [ssL_conf s c] at rr
  have hF : ∀ y ∈ F, y ∉ [p] := fun y hy => by simpa using (h.far y (by simp [hy])).2.1
  have hK : ∀ y ∈ K, y ∉ [p] := fun y hy => by simpa using (h.far y (by simp [hy])).2.1
  have hGp : ∀ y ∈ G, y ∉ [p] := fun y hy => by simpa using (hG y hy).2.1
  refine ⟨⟨rr, h.ch.keep hk (by simpa using h.apart.symm), fun t ht => (h.its t ht).keep hk hK, h.nm, (h.env.keep hk hF).more (by simp +contextual), (hr.keep hk hGp).more (by simp +contextual), fun y hy => ?_⟩, hk⟩
  have : y ∈ F ++ K ∨ y ∈ G := by simp only [List.mem_append] at hy ⊢; rcases hy with (hy | hy) | hy <;> simp [hy]
  rcases this with hy | hy
  · exact ⟨Nat.lt_of_lt_of_le (h.far y hy).1 hk.size, (h.far y hy).2⟩
  · exact ⟨Nat.lt_of_lt_of_le (hG y hy).1 hk.size, (hG y hy).2⟩
theorem cfL_set (c : CF) (cv cv' : Value) : (cfL c cv).set 2 cv' = cfL c cv' := rfl
section
variable (p q : Nat) (s : SS) (cv ev : Value) (F K : List Nat) (T : List (PK × List Value)) (c : CF) (xv : Value) (w : World) (h : isQ w p q s cv ev F K T)
include h
set_option maxHeartbeats 1000000 in
theorem learnQ_no (hc : ¬ (s.conf.num < c.num ∨ s.conf.chain = [])) :
    Calls Tryd.prog 45 #[.pointer (some ⟨p, 0, none⟩), .agg (cfL c xv).toArray] w (learnPost p q s ev F K T w) := by
  have k1 := (keepBut.refl [] w).alloc (.cells (cfL c xv).toArray 41)
  have r1 := rowAt.new w 41 (cfL c xv).toArray
  obtain ⟨X, hX⟩ : ∃ X, cfL c xv = X := ⟨_, rfl⟩
  have x0 : X.toArray[0]? = some (.int .i64 c.num) := by rw [← hX]; rfl
  rw [hX] at k1 r1 ⊢
  obtain ⟨w1, hw1⟩ : ∃ w1, w.alloc (.cells X.toArray 41) = w1 := ⟨_, rfl⟩
  rw [hw1] at k1 r1
  have h1 := h.over k1
  obtain ⟨A, cc, g, rfl, _, h3, _⟩ := h1.chain
  obtain ⟨_, _, _, _, y4, _, y6, _⟩ := h1.cells
  have y0 := (r1.cell 0).trans x0
  obtain ⟨n, hn⟩ : ∃ n, s.conf.chain.length = n := ⟨_, rfl⟩
  have hne : ¬ (n : Int) = 0 := by
    intro h0
    have : s.conf.chain.length = 0 := by omega
    exact hc (.inr (List.length_eq_zero_iff.1 this))
  have hne2 : ((n : Int) == 0) = false := by simp; omega
  have hd : decide (s.conf.num < c.num) = false := by simp only [decide_eq_false_iff_not]; exact fun h => hc (.inl h)
  have hnm : n ≤ 9223372036854775807 := by unfold maxLen at h3; omega
  have H0 := Lib.hid (And.intro h k1)
  have HW := Lib.hid hw1
  rw [hn] at y6
  clear h k1 h1 hw1 hc hX x0 hne r1 h3
  go_enter Tryd.func45, Tryd.ntmps45
  go_upto_region 1 with (first
    | (with_reducible refine wpList_box_to _ _ rfl 41 (.tmp 1) rfl _ rfl HW.out ?_))
  go_quiet (fail)
  go_wp2_with fail
  refine bodyPost_end (results_none rfl _ _ _) rfl ?_
  exact ⟨rfl, _, [], by rw [List.append_nil]; exact H0.out.1.over (H0.out.2.drewN nq), by simp [newIn], (H0.out.2.drewN nq).more (by simp)⟩
set_option maxHeartbeats 1000000 in
theorem learnQ_yes (G : List Nat) (hx : intsV w G xv c.chain) (hl : c.chain.length ≤ 1000000) (hc : s.conf.num < c.num ∨ s.conf.chain = []) :
    Calls Tryd.prog 45 #[.pointer (some ⟨p, 0, none⟩), .agg (cfL c xv).toArray] w (learnPost p q ((s.setConf c).setSent false) ev F K T w) := by
  have hpw := h.row.lt
  have hqw := h.ch.lt
  have k1 := (keepBut.refl [] w).alloc (.cells (cfL c xv).toArray 41)
  have r1 := rowAt.new w 41 (cfL c xv).toArray
  obtain ⟨w1, hw1⟩ : ∃ w1, w.alloc (.cells (cfL c xv).toArray 41) = w1 := ⟨_, rfl⟩
  rw [hw1] at k1 r1
  have h1 := h.over k1
  obtain ⟨b, hb⟩ : ∃ b, w.heap.size = b := ⟨_, rfl⟩
  have hx1 := hx.keep k1 (by simp)
  have HR := Lib.hid (And.intro r1 (And.intro hb (And.intro hpw hqw)))
  have xone := hx.one
  rw [hb] at r1
  have y0 : w1.cell? ⟨b, 0, none⟩ = some (.int .i64 c.num) := r1.cell 0
  have y2 : w1.cell? ⟨b, 2, none⟩ = some xv := r1.cell 2
  obtain ⟨A, cc, g, rfl, _, h3, _⟩ := h1.chain
  obtain ⟨_, _, _, _, z4, _, z6, _⟩ := h1.cells
  obtain ⟨n, hn⟩ : ∃ n, s.conf.chain.length = n := ⟨_, rfl⟩
  have hd : (decide (s.conf.num < c.num) = true) ∨ (decide (s.conf.num < c.num) = false ∧ n = 0) := by
    by_cases h : s.conf.num < c.num
    · exact .inl (by simp [h])
    · refine .inr ⟨by simp only [decide_eq_false_iff_not]; exact h, ?_⟩
      rcases hc with hc | hc
      · exact absurd hc h
      · rw [← hn, hc]; rfl
  have hnm : n ≤ 9223372036854775807 := by unfold maxLen at h3; omega
  rw [hn] at z6
  obtain ⟨X, hX⟩ : ∃ X, cfL c xv = X := ⟨_, rfl⟩
  rw [hX] at hw1 r1 HR ⊢
  have HX := Lib.hid (And.intro hX hn)
  have HCl := Lib.hid (fun w' (hk : keepBut [] w1 w') => cloneI_any G xv c.chain w' (hx1.keep hk (by simp)) hl)
  have H0 := Lib.hid (And.intro h (And.intro k1 h1))
  have HW := Lib.hid hw1
  have R1 := Lib.hid r1
  clear h k1 h1 hw1 hc hX r1 h3 hn hx hl hx1 hpw hqw
  rcases hd with hd | ⟨hd, rfl⟩
  all_goals
    go_enter Tryd.func45, Tryd.ntmps45
    go_upto_region 1 with (first
      | (with_reducible refine wpList_box_to _ _ rfl 41 (.tmp 1) rfl _ rfl HW.out ?_))
    go_quiet (fail)
    have k2 : keepBut [] w1 (w1.drewN nq) := (keepBut.refl [] w1).drewN nq
    generalize w1.drewN nq = w2 at k2 ⊢
    have r2 := k2.row R1.out (by simp)
    have f2 := r2.free 2
    have u2 : w2.cell? ⟨b, 2, none⟩ = some xv := by rw [r2.cell, ← HX.out.1]; rfl
    have K2 := Lib.hid (And.intro k2 r2)
    clear k2 r2 y0 y2 z4 z6
    go_upto_region 3 with (first
      | (go_at_call 47; (with_reducible refine (HCl.out _ K2.out.1).mono ?_); rintro e w3 ⟨v, rfl, G', hv, hG', k3⟩; obtain ⟨A3, c3, g3, hve, _⟩ := id hv; subst hve; have r3 := k3.row K2.out.2 (by simp); have u3 := r3.cell 2; rw [← HX.out.1] at u3; replace u3 : w3.cell? ⟨b, 2, none⟩ = some xv := u3; have f3 := r3.free 2; have H3 := Lib.hid (And.intro hv (And.intro hG' (And.intro k3 r3))); clear hv hG' k3 r3))
    have r4 := H3.out.2.2.2.set 2 (.slice A3 c.chain.length c3)
    have e4 : X.toArray.setIfInBounds 2 (.slice A3 c.chain.length c3) = (cfL c (.slice A3 c.chain.length c3)).toArray := by rw [← HX.out.1]; simp [cfL]
    rw [e4] at r4
    have hbp : p < b ∧ q < b := by have := HR.out.2; omega
    have hs3 : b < w3.heap.size := H3.out.2.2.2.lt
    have k4 : keepBut [b] w3 (w3.setCell ⟨b, 2, none⟩ (.slice A3 c.chain.length c3)) := (keepBut.refl _ _).setCell _ _ (.inl (by simp))
    have hwb : w1.heap.size ≤ w3.heap.size := Nat.le_trans K2.out.1.size H3.out.2.2.1.size
    have hb1 : b < w1.heap.size := R1.out.lt
    have hv4 : intsV (w3.setCell ⟨b, 2, none⟩ (.slice A3 c.chain.length c3)) G' (.slice A3 c.chain.length c3) c.chain := H3.out.1.keep k4 (fun y hy hm => by
      have h1 := (H3.out.2.1 y hy).1
      have h2 := K2.out.1.size
      simp only [List.mem_singleton] at hm
      omega)
    have kw4 : keepBut [] w (w3.setCell ⟨b, 2, none⟩ (.slice A3 c.chain.length c3)) := ((H0.out.2.1.then K2.out.1 (by simp)).then H3.out.2.2.1 (by simp)).then k4 (fun x hx => .inr (by simp only [List.mem_singleton] at hx; subst hx; exact Nat.le_of_eq HR.out.2.1))
    have ks4 := k4.size
    generalize hw4 : w3.setCell ⟨b, 2, none⟩ (.slice A3 c.chain.length c3) = w4 at r4 k4 hv4 kw4 ks4 ⊢
    have h4 := H0.out.1.over kw4
    have hF : ∀ y ∈ G', y < w4.heap.size ∧ y ≠ p ∧ y ≠ q := fun y hy => by
      have h1 := H3.out.2.1 y hy
      have h2 := K2.out.1.size
      omega
    have hG4 : newIn w w4 G' := fun y hy => by
      have h1 := H3.out.2.1 y hy
      have h2 := K2.out.1.size
      have h3 := H0.out.2.1.size
      omega
    have HZ := Lib.hid (And.intro r4.rangeAll (And.intro (h4.row.there (o := 4) (n := 3) (by rw [List.size_toArray, ssL_len _ h4.nm]; decide)) (cfL_one c hv4.one)))
    obtain ⟨a5, k5⟩ := h4.conf hv4 hF
    have H5 := Lib.hid (And.intro a5 (And.intro k5 (And.intro hG4 kw4)))
    obtain ⟨Y, hY⟩ : ∃ Y, cfL c (.slice A3 c.chain.length c3) = Y := ⟨_, rfl⟩
    have hYl : Y.length = 3 := by rw [← hY]; rfl
    rw [hY] at HZ H5
    have HL := Lib.hid hYl
    clear r4 k4 hv4 kw4 ks4 h4 hF hG4 a5 k5 hY hYl e4 hbp hs3 hwb hb1 hw4 u2 f2 u3 f3
    go_upto_region 4 with (first
      | (refine wpList_load_mid rfl 41 (.tmp 3) rfl b 0 rfl Y _ HZ.out.1 Tryd.underlying41 rfl (by rw [HL.out]; exact info_cf) ?_)
      | (refine wpList_store_mid rfl 41 (.tmp 28) (.tmp 26) rfl p 4 Y.toArray rfl rfl (by rw [List.size_toArray, HL.out]; exact HZ.out.2.1) (by rw [List.size_toArray, HL.out]; exact info_cf) (by simpa using HZ.out.2.2) ?_))
    obtain ⟨_, _, _, _, _, _, _, _, _, _, _, _, v49⟩ := H5.out.1.cells
    have f49 := H5.out.1.row.free 49
    have H6 := Lib.hid (H5.out.1.sent false)
    go_wp2_with fail
    refine bodyPost_end (results_none rfl _ _ _) rfl ?_
    exact ⟨rfl, _, G', H6.out.1, fun y hy => ⟨(H5.out.2.2.1 y hy).1, Nat.lt_of_lt_of_le (H5.out.2.2.1 y hy).2 (Nat.le_trans H5.out.2.1.size H6.out.2.size)⟩, ((H5.out.2.2.2.more (by simp)).then H5.out.2.1 (fun x hx => .inl hx)).then H6.out.2 (fun x hx => .inl hx)⟩
theorem learnQ_any (G : List Nat) (hx : intsV w G xv c.chain) (hl : c.chain.length ≤ 1000000) :
    Calls Tryd.prog 45 #[.pointer (some ⟨p, 0, none⟩), .agg (cfL c xv).toArray] w (learnPost p q (s.learn c) ev F K T w) := by
  unfold SS.learn
  by_cases hc : s.conf.num < c.num ∨ s.conf.chain = []
  · rw [if_pos hc]; exact learnQ_yes p q s cv ev F K T c xv w h G hx hl hc
  · rw [if_neg hc]; exact learnQ_no p q s cv ev F K T c xv w h hc
end
end Go.Proofs.YtkpmlcgbffdloaaDoor
