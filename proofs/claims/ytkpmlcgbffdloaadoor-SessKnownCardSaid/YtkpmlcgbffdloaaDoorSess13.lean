/-
  SESS, 13: Tick.
-/
import Derived.Test.YtkpmlcgbffdloaaDoorSess12
namespace Go.Proofs.YtkpmlcgbffdloaaDoor
open Go.RowKit
set_option linter.unusedVariables false
set_option maxRecDepth 100000
set_option linter.unusedSimpArgs false

def SS.reqK (s : SS) : PK := s.reqP.from (20 + s.client)
def SS.asksK (s : SS) : List PK := [(SS.ask 0).from (20 + s.client), (SS.ask 1).from (20 + s.client), (SS.ask 2).from (20 + s.client)]
def ifL {α : Type} (b : Bool) (l : List α) : List α := if b then l else []
/-- a tick on which it still waits: what is sent -/
def SS.tickL (s : SS) : List PK :=
  ifL (!s.sent && decide (s.conf.chain ≠ [])) [s.reqK] ++ (ifL (!(s.sent || decide (s.conf.chain ≠ [])) || decide ((s.ticks + 1) % s.limit = 0)) s.asksK ++ ifL (decide ((s.ticks + 1) % s.limit = 0) && (!(!s.sent && decide (s.conf.chain ≠ [])) && decide (s.conf.chain ≠ []))) [s.reqK])
def SS.tickP (s : SS) : List PK × SS :=
  if s.waits = false then ([], s) else if s.most < s.ticks + 1 then ([], ((s.setTicks (s.ticks + 1)).setWaits false).setLate true)
  else (s.tickL, (s.setTicks (s.ticks + 1)).setSent (s.sent || decide (s.conf.chain ≠ [])))
structure tickAt (p q : Nat) (s : SS) (cv ev : Value) (F : List Nat) (L : List PK) (w : World) (v : Value) (D : List (PK × List Value)) (K : List Nat) (w' : World) : Prop where
  is : isQ w' p q s cv ev F [] []
  ps : D.map (·.1) = L
  own : ownsO w' 44 87 v D.length (flatP D)
  its : ∀ t ∈ D, itemV w' K t
  newK : newIn w w' K
  newV : ∀ x ∈ homes v, w.heap.size ≤ x
  kept : keepBut [p, q] w w'
  apart : ∀ y ∈ K, y ∉ homes v
def tickPost (p q : Nat) (a : List PK × SS) (cv ev : Value) (F : List Nat) (w : World) (e : Ending) (w' : World) : Prop :=
  ∃ v D K, e = .returned v ∧ tickAt p q a.2 cv ev F a.1 w v D K w'
theorem isQ.bare {w : World} {p q : Nat} {s : SS} {cv ev : Value} {F K : List Nat} (h : isQ w p q s cv ev F K []) : isQ w p q s cv ev F [] [] :=
  ⟨h.row, h.ch, by simp, h.nm, h.env, h.chain, fun y hy => h.far y (by simp at hy; simp [hy])⟩
theorem tickAt.of {p q : Nat} {s : SS} {cv ev v : Value} {F K : List Nat} {w w1 w' : World} {T : List (PK × List Value)} {L : List PK} (h : colAt p q s cv ev F K w1 T [] v w') (hL : T.map (·.1) = L) (hK : newIn w w1 K) (hk : keepBut [p, q] w w1) : tickPost p q (L, s) cv ev F w (.returned v) w' :=
  ⟨v, T, K, rfl, h.is.bare, hL, h.own, h.its, fun y hy => ⟨(hK y hy).1, Nat.lt_of_lt_of_le (hK y hy).2 h.kept.size⟩, fun x hx => Nat.le_trans hk.size (h.new x hx), hk.then (h.kept.more (T := [p, q]) (by simp)) (fun x hx => .inl hx), fun y hy hm => by have a := h.new y hm; have b := h.old y (by simp [hy]); omega⟩
theorem askT_fst (s : SS) : (s.asks 3).map (·.1) = s.asksK := rfl
/-- on the way through a tick that began in w: L waits to be sent -/
structure goes (p q : Nat) (s : SS) (cv ev : Value) (F : List Nat) (w : World) (L : List PK) (K : List Nat) (T : List (PK × List Value)) (W : World) : Prop where
  is : isQ W p q s cv ev F K T
  kept : keepBut [p, q] w W
  new : newIn w W K
  ps : T.map (·.1) = L
def sentPost (p q : Nat) (s : SS) (cv ev : Value) (F : List Nat) (w : World) (L : List PK) (e : Ending) (w' : World) : Prop := e = .returned (.bool true) ∧ ∃ K T, goes p q (s.setSent true) cv ev F w (L ++ [s.reqK]) K T w'
def asksPost (p q : Nat) (s : SS) (cv ev : Value) (F : List Nat) (w : World) (L : List PK) (e : Ending) (w' : World) : Prop := e = .returned (.tuple #[]) ∧ ∃ K T, goes p q s cv ev F w (L ++ s.asksK) K T w'
section
variable {p q : Nat} {s : SS} {cv ev : Value} {F : List Nat} {w : World} {L : List PK} {K : List Nat} {T : List (PK × List Value)} {W : World} (h : goes p q s cv ev F w L K T W)
include h
theorem goes.len : T.length = L.length := by rw [← h.ps, List.length_map]
theorem goes.sendNo (hc : s.conf.chain = []) : Calls Tryd.prog 48 #[.pointer (some ⟨p, 0, none⟩)] W fun e w' => e = .returned (.bool false) ∧ W = w' := by
  have := sendQ_no p q s cv ev F K T W h.is hc
  unfold sendQPost at this
  simpa only [if_pos hc] using this
theorem goes.send (hc : s.conf.chain ≠ []) (hb : 0 ≤ s.client ∧ s.client ≤ 2) (hT : L.length ≤ 3) (hn : s.req.env.length ≤ 1000000) : Calls Tryd.prog 48 #[.pointer (some ⟨p, 0, none⟩)] W (sentPost p q s cv ev F w L) := by
  refine (sendQ_yes p q s cv ev F K T W h.is hc hb (by rw [h.len]; exact hT) hn).mono ?_
  intro e w' hs
  unfold sendQPost at hs
  rw [if_neg hc] at hs
  obtain ⟨rfl, ev', G', h1, h2, h3⟩ := hs
  refine ⟨rfl, _, _, h1, h.kept.then h3 (fun x hx => .inl hx), fun y hy => ?_, by rw [List.map_append, h.ps]; rfl⟩
  have s1 := h.kept.size
  have s2 := h3.size
  rcases List.mem_append.1 hy with hy | hy
  · have := h.new y hy; omega
  · have := h2 y hy; omega
theorem goes.ask (hb : 0 ≤ s.client ∧ s.client ≤ 2) (hT : L.length ≤ 1) : Calls Tryd.prog 49 #[.pointer (some ⟨p, 0, none⟩)] W (asksPost p q s cv ev F w L) := by
  refine (askMasters_any p q s cv ev F K T W h.is hb (by rw [h.len]; exact hT)).mono ?_
  rintro e w' ⟨rfl, h1, h2⟩
  have k2 := h.kept.then (h2.more (T := [p, q]) (by simp)) (fun x hx => .inl hx)
  exact ⟨rfl, _, _, h1, k2, h.new.keep h2.size, by rw [List.map_append, h.ps, askT_fst]⟩
theorem goes.collect (hT : L.length ≤ 4) : Calls Tryd.prog 50 #[.pointer (some ⟨p, 0, none⟩)] W (tickPost p q (L, s) cv ev F w) := by
  refine (collectQ_any p q s cv ev F K T W h.is (by rw [h.len]; exact hT)).mono ?_
  rintro e w' ⟨v, rfl, h1⟩
  exact tickAt.of h1 h.ps h.new h.kept
theorem goes.drewN (n : Nat) : goes p q s cv ev F w L K T (W.drewN n) :=
  ⟨h.is.over ((keepBut.refl [] W).drewN n), h.kept.drewN n, h.new, h.ps⟩
theorem goes.drew : goes p q s cv ev F w L K T W.drew :=
  ⟨h.is.over ((keepBut.refl [] W).drew), h.kept.drew, h.new, h.ps⟩
end
theorem goes.start {p q : Nat} {s : SS} {cv ev : Value} {F : List Nat} {w : World} (h : isQ w p q s cv ev F [] []) (n : Int) : goes p q (s.setTicks n) cv ev F w [] [] [] (w.setCell ⟨p, 48, none⟩ (.int .i64 n)) :=
  ⟨(h.ticks n).1, (h.ticks n).2.more (by simp), by simp [newIn], rfl⟩
theorem setSent_self {s : SS} {b : Bool} (h : s.sent = b) (n : Int) : (s.setTicks n).setSent b = s.setTicks n := by subst h; rfl
section
variable (p q : Nat) (s : SS) (cv ev : Value) (F : List Nat) (w : World) (h : isQ w p q s cv ev F [] [])
include h
theorem tickQ_none (hw : s.waits = false) : Calls Tryd.prog 24 #[.pointer (some ⟨p, 0, none⟩)] w (tickPost p q ([], s) cv ev F w) := by
  obtain ⟨_, _, _, _, _, _, _, _, _, x9, _⟩ := h.cells
  rw [hw] at x9
  have H0 := Lib.hid h
  clear h hw
  go_enter Tryd.func24, Tryd.ntmps24
  go_wp2_with (first
    | (go_at_call 42; refine (noneQ_any _ _ _ _ _ _ _ _ _ H0.out).mono ?_; rintro e w' ⟨rfl, rfl⟩))
  go_ret
  exact ⟨_, [], [], rfl, H0.out, rfl, ownsO.nil _ _ _, by simp, by simp [newIn], by simp [homes_none], keepBut.refl _ _, by simp⟩
theorem tickQ_late (hw : s.waits = true) (ht : 0 ≤ s.ticks ∧ s.ticks ≤ 100000) (hm : s.most < s.ticks + 1) : Calls Tryd.prog 24 #[.pointer (some ⟨p, 0, none⟩)] w (tickPost p q ([], ((s.setTicks (s.ticks + 1)).setWaits false).setLate true) cv ev F w) := by
  obtain ⟨_, _, x2, _, _, _, _, _, _, x9, x10, x48, _⟩ := h.cells
  rw [hw] at x9
  have f48 := h.row.free 48
  obtain ⟨ht0, ht1⟩ := ht
  have hwr : IntKind.i64.wrap (s.ticks + 1) = s.ticks + 1 := by rw [IntKind.wrap_i64]; omega
  have H0 := Lib.hid h
  clear h hw ht0 ht1
  go_enter Tryd.func24, Tryd.ntmps24
  go_upto_region 4 with (first
    | (go_at_call 42; refine (noneQ_any _ _ _ _ _ _ _ _ _ H0.out).mono ?_; rintro e w' ⟨rfl, rfl⟩))
  go_quiet (fail)
  have g1 := ((goes.start H0.out (s.ticks + 1)).drewN nq)
  generalize (w.setCell ⟨p, 48, none⟩ (.int .i64 (s.ticks + 1))).drewN nq = w1 at g1 ⊢
  have G1 := Lib.hid g1
  obtain ⟨_, _, _, _, _, _, _, _, _, y9, y10, _⟩ := g1.is.cells
  have f9 := g1.is.row.free 9
  have f10 := g1.is.row.free 10
  clear g1
  go_wp2_with fail
  go_ret
  have a2 := G1.out.is.waits false
  have a3 := a2.1.late true
  exact ⟨_, [], [], rfl, a3.1, rfl, ownsO.nil _ _ _, by simp, by simp [newIn], by simp [homes_none], (G1.out.kept.then (a2.2.more (T := [p, q]) (by simp)) (fun x hx => .inl hx)).then (a3.2.more (T := [p, q]) (by simp)) (fun x hx => .inl hx), by simp⟩
set_option maxHeartbeats 1000000 in
theorem tickQ_1 (hw : s.waits = true) (hb : 0 ≤ s.client ∧ s.client ≤ 2) (hl : 1 ≤ s.limit ∧ s.limit ≤ 1000) (ht : 0 ≤ s.ticks ∧ s.ticks ≤ 100000) (hn : s.req.env.length ≤ 1000000) (hm : ¬ s.most < s.ticks + 1) (hc : s.conf.chain = []) (hs : s.sent = false) (ha : ¬ (s.ticks + 1) % s.limit = 0) : Calls Tryd.prog 24 #[.pointer (some ⟨p, 0, none⟩)] w (tickPost p q (s.tickL, (s.setTicks (s.ticks + 1)).setSent (s.sent || decide (s.conf.chain ≠ []))) cv ev F w) := by
  obtain ⟨_, _, x2, _, _, _, _, _, _, x9, x10, x48, x49⟩ := h.cells
  rw [hw] at x9
  rw [hs] at x49
  have f48 := h.row.free 48
  obtain ⟨ht0, ht1⟩ := ht
  have hwr : IntKind.i64.wrap (s.ticks + 1) = s.ticks + 1 := by rw [IntKind.wrap_i64]; omega
  have hw64 : wrap64 (s.ticks + 1) = s.ticks + 1 := by unfold wrap64; omega
  have hmd : (s.ticks + 1).tmod s.limit = (s.ticks + 1) % s.limit := Int.tmod_eq_emod_of_nonneg (by omega)
  have a1 := h.ticks (s.ticks + 1)
  have HE := Lib.hid (show s.tickL = s.asksK ∧ (s.sent || decide (s.conf.chain ≠ [])) = false from by
    unfold SS.tickL
    simp [hc, hs, ha, ifL])
  have H0 := Lib.hid h
  have HB := Lib.hid (And.intro hb (And.intro hn (And.intro hs hc)))
  have ha2 : ((s.ticks + 1) % s.limit == 0) = false := by simp [ha]
  have hl0 : ¬ s.limit = 0 := by omega
  have hl2 : (s.limit == 0) = false := by simp; omega
  have hm2 : s.ticks + 1 ≤ s.most := by omega
  have HA := Lib.hid (show ((s.asksK : List PK), (s.setTicks (s.ticks + 1))) = (s.tickL, (s.setTicks (s.ticks + 1)).setSent (s.sent || decide (s.conf.chain ≠ []))) by rw [HE.out.1, HE.out.2]; exact congrArg (Prod.mk _) (setSent_self hs _).symm)
  obtain ⟨z, hz⟩ : ∃ z, (s.tickL, (s.setTicks (s.ticks + 1)).setSent (s.sent || decide (s.conf.chain ≠ []))) = z := ⟨_, rfl⟩
  rw [hz] at HA ⊢
  clear hz
  clear h hw hs hc hb hl ht0 ht1 hn ha hm
  go_enter Tryd.func24, Tryd.ntmps24
  go_upto_region 4 with (first
    | (go_at_call 42; refine (noneQ_any _ _ _ _ _ _ _ _ _ H0.out).mono ?_; rintro e w' ⟨rfl, rfl⟩))
  go_quiet (fail)
  have g1 := ((goes.start H0.out (s.ticks + 1)).drewN nq)
  generalize (w.setCell ⟨p, 48, none⟩ (.int .i64 (s.ticks + 1))).drewN nq = w1 at g1 ⊢
  obtain ⟨_, y1, y2, _, _, _, _, _, _, _, _, y48, y49⟩ := g1.is.cells
  replace y1 : w1.cell? ⟨p, 1, none⟩ = some (.int .i64 s.limit) := y1
  replace y48 : w1.cell? ⟨p, 48, none⟩ = some (.int .i64 (s.ticks + 1)) := y48
  have HG := Lib.hid g1
  clear g1 x2 x9 x10 x48 x49 f48 H0 a1 y49
  go_upto_region 7 with fail
  go_region
  have g2 := HG.out.drew
  generalize w1.drew = w2 at g2 ⊢
  obtain ⟨_, _, _, _, _, _, _, _, _, _, _, _, y49⟩ := g2.is.cells
  replace y49 : w2.cell? ⟨p, 49, none⟩ = some (.bool false) := by rw [← HB.out.2.2.1]; exact y49
  have HQ := Lib.hid g2
  clear g2 HG y1 y48
  go_wp2_with (first
    | (go_at_call 48; (refine (HQ.out.sendNo HB.out.2.2.2).mono ?_); rintro e w4 ⟨rfl, rfl⟩)
    | (go_at_call 49; (refine (HQ.out.ask HB.out.1 (by simp)).mono ?_); rintro e w4 ⟨rfl, K4, T4, h4⟩; obtain ⟨_, _, _, _, _, _, _, _, _, _, _, _, z49⟩ := h4.is.cells; have HQ2 := Lib.hid h4; clear h4 HQ; rename Hid (goes _ _ _ _ _ _ _ _ _ _ _) => HQ)
    | (go_at_call 50; (refine (HQ.out.collect (by simp [SS.asksK])).mono ?_); rintro e w5 ⟨v, D, K', rfl, h5⟩; have H5 := Lib.hid h5; clear h5))
  go_ret
  rw [← HA.out]
  exact ⟨v, D, K', rfl, H5.out⟩
set_option maxHeartbeats 1000000 in
theorem tickQ_2 (hw : s.waits = true) (hb : 0 ≤ s.client ∧ s.client ≤ 2) (hl : 1 ≤ s.limit ∧ s.limit ≤ 1000) (ht : 0 ≤ s.ticks ∧ s.ticks ≤ 100000) (hn : s.req.env.length ≤ 1000000) (hm : ¬ s.most < s.ticks + 1) (hc : s.conf.chain = []) (hs : s.sent = false) (ha : (s.ticks + 1) % s.limit = 0) : Calls Tryd.prog 24 #[.pointer (some ⟨p, 0, none⟩)] w (tickPost p q (s.tickL, (s.setTicks (s.ticks + 1)).setSent (s.sent || decide (s.conf.chain ≠ []))) cv ev F w) := by
  obtain ⟨_, _, x2, _, _, _, _, _, _, x9, x10, x48, x49⟩ := h.cells
  rw [hw] at x9
  rw [hs] at x49
  have f48 := h.row.free 48
  obtain ⟨ht0, ht1⟩ := ht
  have hwr : IntKind.i64.wrap (s.ticks + 1) = s.ticks + 1 := by rw [IntKind.wrap_i64]; omega
  have hw64 : wrap64 (s.ticks + 1) = s.ticks + 1 := by unfold wrap64; omega
  have hmd : (s.ticks + 1).tmod s.limit = (s.ticks + 1) % s.limit := Int.tmod_eq_emod_of_nonneg (by omega)
  have a1 := h.ticks (s.ticks + 1)
  have HE := Lib.hid (show s.tickL = s.asksK ∧ (s.sent || decide (s.conf.chain ≠ [])) = false from by
    unfold SS.tickL
    simp [hc, hs, ha, ifL])
  have H0 := Lib.hid h
  have HB := Lib.hid (And.intro hb (And.intro hn (And.intro hs hc)))
  have ha2 : ((s.ticks + 1) % s.limit == 0) = true := by simp [ha]
  have hl0 : ¬ s.limit = 0 := by omega
  have hl2 : (s.limit == 0) = false := by simp; omega
  have hm2 : s.ticks + 1 ≤ s.most := by omega
  have HA := Lib.hid (show ((s.asksK : List PK), (s.setTicks (s.ticks + 1))) = (s.tickL, (s.setTicks (s.ticks + 1)).setSent (s.sent || decide (s.conf.chain ≠ []))) by rw [HE.out.1, HE.out.2]; exact congrArg (Prod.mk _) (setSent_self hs _).symm)
  obtain ⟨z, hz⟩ : ∃ z, (s.tickL, (s.setTicks (s.ticks + 1)).setSent (s.sent || decide (s.conf.chain ≠ []))) = z := ⟨_, rfl⟩
  rw [hz] at HA ⊢
  clear hz
  clear h hw hs hc hb hl ht0 ht1 hn ha hm
  go_enter Tryd.func24, Tryd.ntmps24
  go_upto_region 4 with (first
    | (go_at_call 42; refine (noneQ_any _ _ _ _ _ _ _ _ _ H0.out).mono ?_; rintro e w' ⟨rfl, rfl⟩))
  go_quiet (fail)
  have g1 := ((goes.start H0.out (s.ticks + 1)).drewN nq)
  generalize (w.setCell ⟨p, 48, none⟩ (.int .i64 (s.ticks + 1))).drewN nq = w1 at g1 ⊢
  obtain ⟨_, y1, y2, _, _, _, _, _, _, _, _, y48, y49⟩ := g1.is.cells
  replace y1 : w1.cell? ⟨p, 1, none⟩ = some (.int .i64 s.limit) := y1
  replace y48 : w1.cell? ⟨p, 48, none⟩ = some (.int .i64 (s.ticks + 1)) := y48
  have HG := Lib.hid g1
  clear g1 x2 x9 x10 x48 x49 f48 H0 a1 y49
  go_upto_region 7 with fail
  go_region
  have g2 := HG.out.drew
  generalize w1.drew = w2 at g2 ⊢
  obtain ⟨_, _, _, _, _, _, _, _, _, _, _, _, y49⟩ := g2.is.cells
  replace y49 : w2.cell? ⟨p, 49, none⟩ = some (.bool false) := by rw [← HB.out.2.2.1]; exact y49
  have HQ := Lib.hid g2
  clear g2 HG y1 y48
  go_wp2_with (first
    | (go_at_call 48; (refine (HQ.out.sendNo HB.out.2.2.2).mono ?_); rintro e w4 ⟨rfl, rfl⟩)
    | (go_at_call 49; (refine (HQ.out.ask HB.out.1 (by simp)).mono ?_); rintro e w4 ⟨rfl, K4, T4, h4⟩; obtain ⟨_, _, _, _, _, _, _, _, _, _, _, _, z49⟩ := h4.is.cells; have HQ2 := Lib.hid h4; clear h4 HQ; rename Hid (goes _ _ _ _ _ _ _ _ _ _ _) => HQ)
    | (go_at_call 50; (refine (HQ.out.collect (by simp [SS.asksK])).mono ?_); rintro e w5 ⟨v, D, K', rfl, h5⟩; have H5 := Lib.hid h5; clear h5))
  go_ret
  rw [← HA.out]
  exact ⟨v, D, K', rfl, H5.out⟩
set_option maxHeartbeats 1000000 in
theorem tickQ_3 (hw : s.waits = true) (hb : 0 ≤ s.client ∧ s.client ≤ 2) (hl : 1 ≤ s.limit ∧ s.limit ≤ 1000) (ht : 0 ≤ s.ticks ∧ s.ticks ≤ 100000) (hn : s.req.env.length ≤ 1000000) (hm : ¬ s.most < s.ticks + 1) (hc : s.conf.chain = []) (hs : s.sent = true) (ha : ¬ (s.ticks + 1) % s.limit = 0) : Calls Tryd.prog 24 #[.pointer (some ⟨p, 0, none⟩)] w (tickPost p q (s.tickL, (s.setTicks (s.ticks + 1)).setSent (s.sent || decide (s.conf.chain ≠ []))) cv ev F w) := by
  obtain ⟨_, _, x2, _, _, _, _, _, _, x9, x10, x48, x49⟩ := h.cells
  rw [hw] at x9
  rw [hs] at x49
  have f48 := h.row.free 48
  obtain ⟨ht0, ht1⟩ := ht
  have hwr : IntKind.i64.wrap (s.ticks + 1) = s.ticks + 1 := by rw [IntKind.wrap_i64]; omega
  have hw64 : wrap64 (s.ticks + 1) = s.ticks + 1 := by unfold wrap64; omega
  have hmd : (s.ticks + 1).tmod s.limit = (s.ticks + 1) % s.limit := Int.tmod_eq_emod_of_nonneg (by omega)
  have a1 := h.ticks (s.ticks + 1)
  have HE := Lib.hid (show s.tickL = [] ∧ (s.sent || decide (s.conf.chain ≠ [])) = true from by
    unfold SS.tickL
    simp [hc, hs, ha, ifL])
  have H0 := Lib.hid h
  have HB := Lib.hid (And.intro hb (And.intro hn (And.intro hs hc)))
  have ha2 : ((s.ticks + 1) % s.limit == 0) = false := by simp [ha]
  have hl0 : ¬ s.limit = 0 := by omega
  have hl2 : (s.limit == 0) = false := by simp; omega
  have hm2 : s.ticks + 1 ≤ s.most := by omega
  have HA := Lib.hid (show (([] : List PK), (s.setTicks (s.ticks + 1))) = (s.tickL, (s.setTicks (s.ticks + 1)).setSent (s.sent || decide (s.conf.chain ≠ []))) by rw [HE.out.1, HE.out.2]; exact congrArg (Prod.mk _) (setSent_self hs _).symm)
  obtain ⟨z, hz⟩ : ∃ z, (s.tickL, (s.setTicks (s.ticks + 1)).setSent (s.sent || decide (s.conf.chain ≠ []))) = z := ⟨_, rfl⟩
  rw [hz] at HA ⊢
  clear hz
  clear h hw hs hc hb hl ht0 ht1 hn ha hm
  go_enter Tryd.func24, Tryd.ntmps24
  go_upto_region 4 with (first
    | (go_at_call 42; refine (noneQ_any _ _ _ _ _ _ _ _ _ H0.out).mono ?_; rintro e w' ⟨rfl, rfl⟩))
  go_quiet (fail)
  have g1 := ((goes.start H0.out (s.ticks + 1)).drewN nq)
  generalize (w.setCell ⟨p, 48, none⟩ (.int .i64 (s.ticks + 1))).drewN nq = w1 at g1 ⊢
  obtain ⟨_, y1, y2, _, _, _, _, _, _, _, _, y48, y49⟩ := g1.is.cells
  replace y1 : w1.cell? ⟨p, 1, none⟩ = some (.int .i64 s.limit) := y1
  replace y48 : w1.cell? ⟨p, 48, none⟩ = some (.int .i64 (s.ticks + 1)) := y48
  have HG := Lib.hid g1
  clear g1 x2 x9 x10 x48 x49 f48 H0 a1 y49
  go_upto_region 7 with fail
  go_region
  have g2 := HG.out.drew
  generalize w1.drew = w2 at g2 ⊢
  obtain ⟨_, _, _, _, _, _, _, _, _, _, _, _, y49⟩ := g2.is.cells
  replace y49 : w2.cell? ⟨p, 49, none⟩ = some (.bool true) := by rw [← HB.out.2.2.1]; exact y49
  have HQ := Lib.hid g2
  clear g2 HG y1 y48
  go_wp2_with (first
    | (go_at_call 48; (refine (HQ.out.sendNo HB.out.2.2.2).mono ?_); rintro e w4 ⟨rfl, rfl⟩)
    | (go_at_call 49; (refine (HQ.out.ask HB.out.1 (by simp)).mono ?_); rintro e w4 ⟨rfl, K4, T4, h4⟩; obtain ⟨_, _, _, _, _, _, _, _, _, _, _, _, z49⟩ := h4.is.cells; have HQ2 := Lib.hid h4; clear h4 HQ; rename Hid (goes _ _ _ _ _ _ _ _ _ _ _) => HQ)
    | (go_at_call 50; (refine (HQ.out.collect (by simp [SS.asksK])).mono ?_); rintro e w5 ⟨v, D, K', rfl, h5⟩; have H5 := Lib.hid h5; clear h5))
  go_ret
  rw [← HA.out]
  exact ⟨v, D, K', rfl, H5.out⟩
set_option maxHeartbeats 1000000 in
theorem tickQ_4 (hw : s.waits = true) (hb : 0 ≤ s.client ∧ s.client ≤ 2) (hl : 1 ≤ s.limit ∧ s.limit ≤ 1000) (ht : 0 ≤ s.ticks ∧ s.ticks ≤ 100000) (hn : s.req.env.length ≤ 1000000) (hm : ¬ s.most < s.ticks + 1) (hc : s.conf.chain = []) (hs : s.sent = true) (ha : (s.ticks + 1) % s.limit = 0) : Calls Tryd.prog 24 #[.pointer (some ⟨p, 0, none⟩)] w (tickPost p q (s.tickL, (s.setTicks (s.ticks + 1)).setSent (s.sent || decide (s.conf.chain ≠ []))) cv ev F w) := by
  obtain ⟨_, _, x2, _, _, _, _, _, _, x9, x10, x48, x49⟩ := h.cells
  rw [hw] at x9
  rw [hs] at x49
  have f48 := h.row.free 48
  obtain ⟨ht0, ht1⟩ := ht
  have hwr : IntKind.i64.wrap (s.ticks + 1) = s.ticks + 1 := by rw [IntKind.wrap_i64]; omega
  have hw64 : wrap64 (s.ticks + 1) = s.ticks + 1 := by unfold wrap64; omega
  have hmd : (s.ticks + 1).tmod s.limit = (s.ticks + 1) % s.limit := Int.tmod_eq_emod_of_nonneg (by omega)
  have a1 := h.ticks (s.ticks + 1)
  have HE := Lib.hid (show s.tickL = s.asksK ∧ (s.sent || decide (s.conf.chain ≠ [])) = true from by
    unfold SS.tickL
    simp [hc, hs, ha, ifL])
  have H0 := Lib.hid h
  have HB := Lib.hid (And.intro hb (And.intro hn (And.intro hs hc)))
  have ha2 : ((s.ticks + 1) % s.limit == 0) = true := by simp [ha]
  have hl0 : ¬ s.limit = 0 := by omega
  have hl2 : (s.limit == 0) = false := by simp; omega
  have hm2 : s.ticks + 1 ≤ s.most := by omega
  have HA := Lib.hid (show ((s.asksK : List PK), (s.setTicks (s.ticks + 1))) = (s.tickL, (s.setTicks (s.ticks + 1)).setSent (s.sent || decide (s.conf.chain ≠ []))) by rw [HE.out.1, HE.out.2]; exact congrArg (Prod.mk _) (setSent_self hs _).symm)
  obtain ⟨z, hz⟩ : ∃ z, (s.tickL, (s.setTicks (s.ticks + 1)).setSent (s.sent || decide (s.conf.chain ≠ []))) = z := ⟨_, rfl⟩
  rw [hz] at HA ⊢
  clear hz
  clear h hw hs hc hb hl ht0 ht1 hn ha hm
  go_enter Tryd.func24, Tryd.ntmps24
  go_upto_region 4 with (first
    | (go_at_call 42; refine (noneQ_any _ _ _ _ _ _ _ _ _ H0.out).mono ?_; rintro e w' ⟨rfl, rfl⟩))
  go_quiet (fail)
  have g1 := ((goes.start H0.out (s.ticks + 1)).drewN nq)
  generalize (w.setCell ⟨p, 48, none⟩ (.int .i64 (s.ticks + 1))).drewN nq = w1 at g1 ⊢
  obtain ⟨_, y1, y2, _, _, _, _, _, _, _, _, y48, y49⟩ := g1.is.cells
  replace y1 : w1.cell? ⟨p, 1, none⟩ = some (.int .i64 s.limit) := y1
  replace y48 : w1.cell? ⟨p, 48, none⟩ = some (.int .i64 (s.ticks + 1)) := y48
  have HG := Lib.hid g1
  clear g1 x2 x9 x10 x48 x49 f48 H0 a1 y49
  go_upto_region 7 with fail
  go_region
  have g2 := HG.out.drew
  generalize w1.drew = w2 at g2 ⊢
  obtain ⟨_, _, _, _, _, _, _, _, _, _, _, _, y49⟩ := g2.is.cells
  replace y49 : w2.cell? ⟨p, 49, none⟩ = some (.bool true) := by rw [← HB.out.2.2.1]; exact y49
  have HQ := Lib.hid g2
  clear g2 HG y1 y48
  go_wp2_with (first
    | (go_at_call 48; (refine (HQ.out.sendNo HB.out.2.2.2).mono ?_); rintro e w4 ⟨rfl, rfl⟩)
    | (go_at_call 49; (refine (HQ.out.ask HB.out.1 (by simp)).mono ?_); rintro e w4 ⟨rfl, K4, T4, h4⟩; obtain ⟨_, _, _, _, _, _, _, _, _, _, _, _, z49⟩ := h4.is.cells; have HQ2 := Lib.hid h4; clear h4 HQ; rename Hid (goes _ _ _ _ _ _ _ _ _ _ _) => HQ)
    | (go_at_call 50; (refine (HQ.out.collect (by simp [SS.asksK])).mono ?_); rintro e w5 ⟨v, D, K', rfl, h5⟩; have H5 := Lib.hid h5; clear h5))
  go_ret
  rw [← HA.out]
  exact ⟨v, D, K', rfl, H5.out⟩
set_option maxHeartbeats 1000000 in
theorem tickQ_5 (hw : s.waits = true) (hb : 0 ≤ s.client ∧ s.client ≤ 2) (hl : 1 ≤ s.limit ∧ s.limit ≤ 1000) (ht : 0 ≤ s.ticks ∧ s.ticks ≤ 100000) (hn : s.req.env.length ≤ 1000000) (hm : ¬ s.most < s.ticks + 1) (hc : s.conf.chain ≠ []) (hs : s.sent = false) (ha : ¬ (s.ticks + 1) % s.limit = 0) : Calls Tryd.prog 24 #[.pointer (some ⟨p, 0, none⟩)] w (tickPost p q (s.tickL, (s.setTicks (s.ticks + 1)).setSent (s.sent || decide (s.conf.chain ≠ []))) cv ev F w) := by
  obtain ⟨_, _, x2, _, _, _, _, _, _, x9, x10, x48, x49⟩ := h.cells
  rw [hw] at x9
  rw [hs] at x49
  have f48 := h.row.free 48
  obtain ⟨ht0, ht1⟩ := ht
  have hwr : IntKind.i64.wrap (s.ticks + 1) = s.ticks + 1 := by rw [IntKind.wrap_i64]; omega
  have hw64 : wrap64 (s.ticks + 1) = s.ticks + 1 := by unfold wrap64; omega
  have hmd : (s.ticks + 1).tmod s.limit = (s.ticks + 1) % s.limit := Int.tmod_eq_emod_of_nonneg (by omega)
  have a1 := h.ticks (s.ticks + 1)
  have HE := Lib.hid (show s.tickL = [s.reqK] ∧ (s.sent || decide (s.conf.chain ≠ [])) = true from by
    unfold SS.tickL
    simp [hc, hs, ha, ifL])
  have H0 := Lib.hid h
  have HB := Lib.hid (And.intro hb (And.intro hn (And.intro hs hc)))
  have ha2 : ((s.ticks + 1) % s.limit == 0) = false := by simp [ha]
  have hl0 : ¬ s.limit = 0 := by omega
  have hl2 : (s.limit == 0) = false := by simp; omega
  have hm2 : s.ticks + 1 ≤ s.most := by omega
  have HA := Lib.hid (show (([s.reqK] : List PK), ((s.setTicks (s.ticks + 1)).setSent true)) = (s.tickL, (s.setTicks (s.ticks + 1)).setSent (s.sent || decide (s.conf.chain ≠ []))) by rw [HE.out.1, HE.out.2])
  obtain ⟨z, hz⟩ : ∃ z, (s.tickL, (s.setTicks (s.ticks + 1)).setSent (s.sent || decide (s.conf.chain ≠ []))) = z := ⟨_, rfl⟩
  rw [hz] at HA ⊢
  clear hz
  clear h hw hs hc hb hl ht0 ht1 hn ha hm
  go_enter Tryd.func24, Tryd.ntmps24
  go_upto_region 4 with (first
    | (go_at_call 42; refine (noneQ_any _ _ _ _ _ _ _ _ _ H0.out).mono ?_; rintro e w' ⟨rfl, rfl⟩))
  go_quiet (fail)
  have g1 := ((goes.start H0.out (s.ticks + 1)).drewN nq)
  generalize (w.setCell ⟨p, 48, none⟩ (.int .i64 (s.ticks + 1))).drewN nq = w1 at g1 ⊢
  obtain ⟨_, y1, y2, _, _, _, _, _, _, _, _, y48, y49⟩ := g1.is.cells
  replace y1 : w1.cell? ⟨p, 1, none⟩ = some (.int .i64 s.limit) := y1
  replace y48 : w1.cell? ⟨p, 48, none⟩ = some (.int .i64 (s.ticks + 1)) := y48
  have HG := Lib.hid g1
  clear g1 x2 x9 x10 x48 x49 f48 H0 a1 y49
  go_upto_region 7 with fail
  go_region
  have g2 := HG.out.drew
  generalize w1.drew = w2 at g2 ⊢
  obtain ⟨_, _, _, _, _, _, _, _, _, _, _, _, y49⟩ := g2.is.cells
  replace y49 : w2.cell? ⟨p, 49, none⟩ = some (.bool false) := by rw [← HB.out.2.2.1]; exact y49
  have HQ := Lib.hid g2
  clear g2 HG y1 y48
  go_wp2_with (first
    | (go_at_call 48; (refine (HQ.out.send HB.out.2.2.2 HB.out.1 (by simp [SS.asksK]) HB.out.2.1).mono ?_); rintro e w4 ⟨rfl, K4, T4, h4⟩; obtain ⟨_, _, _, _, _, _, _, _, _, _, _, _, z49⟩ := h4.is.cells; have HQ2 := Lib.hid h4; clear h4 HQ; rename Hid (goes _ _ _ _ _ _ _ _ _ _ _) => HQ)
    | (go_at_call 49; (refine (HQ.out.ask HB.out.1 (by simp)).mono ?_); rintro e w4 ⟨rfl, K4, T4, h4⟩; obtain ⟨_, _, _, _, _, _, _, _, _, _, _, _, z49⟩ := h4.is.cells; have HQ2 := Lib.hid h4; clear h4 HQ; rename Hid (goes _ _ _ _ _ _ _ _ _ _ _) => HQ)
    | (go_at_call 50; (refine (HQ.out.collect (by simp [SS.asksK])).mono ?_); rintro e w5 ⟨v, D, K', rfl, h5⟩; have H5 := Lib.hid h5; clear h5))
  go_ret
  rw [← HA.out]
  exact ⟨v, D, K', rfl, H5.out⟩
set_option maxHeartbeats 1000000 in
theorem tickQ_6 (hw : s.waits = true) (hb : 0 ≤ s.client ∧ s.client ≤ 2) (hl : 1 ≤ s.limit ∧ s.limit ≤ 1000) (ht : 0 ≤ s.ticks ∧ s.ticks ≤ 100000) (hn : s.req.env.length ≤ 1000000) (hm : ¬ s.most < s.ticks + 1) (hc : s.conf.chain ≠ []) (hs : s.sent = false) (ha : (s.ticks + 1) % s.limit = 0) : Calls Tryd.prog 24 #[.pointer (some ⟨p, 0, none⟩)] w (tickPost p q (s.tickL, (s.setTicks (s.ticks + 1)).setSent (s.sent || decide (s.conf.chain ≠ []))) cv ev F w) := by
  obtain ⟨_, _, x2, _, _, _, _, _, _, x9, x10, x48, x49⟩ := h.cells
  rw [hw] at x9
  rw [hs] at x49
  have f48 := h.row.free 48
  obtain ⟨ht0, ht1⟩ := ht
  have hwr : IntKind.i64.wrap (s.ticks + 1) = s.ticks + 1 := by rw [IntKind.wrap_i64]; omega
  have hw64 : wrap64 (s.ticks + 1) = s.ticks + 1 := by unfold wrap64; omega
  have hmd : (s.ticks + 1).tmod s.limit = (s.ticks + 1) % s.limit := Int.tmod_eq_emod_of_nonneg (by omega)
  have a1 := h.ticks (s.ticks + 1)
  have HE := Lib.hid (show s.tickL = [s.reqK] ++ s.asksK ∧ (s.sent || decide (s.conf.chain ≠ [])) = true from by
    unfold SS.tickL
    simp [hc, hs, ha, ifL])
  have H0 := Lib.hid h
  have HB := Lib.hid (And.intro hb (And.intro hn (And.intro hs hc)))
  have ha2 : ((s.ticks + 1) % s.limit == 0) = true := by simp [ha]
  have hl0 : ¬ s.limit = 0 := by omega
  have hl2 : (s.limit == 0) = false := by simp; omega
  have hm2 : s.ticks + 1 ≤ s.most := by omega
  have HA := Lib.hid (show (([s.reqK] ++ s.asksK : List PK), ((s.setTicks (s.ticks + 1)).setSent true)) = (s.tickL, (s.setTicks (s.ticks + 1)).setSent (s.sent || decide (s.conf.chain ≠ []))) by rw [HE.out.1, HE.out.2])
  obtain ⟨z, hz⟩ : ∃ z, (s.tickL, (s.setTicks (s.ticks + 1)).setSent (s.sent || decide (s.conf.chain ≠ []))) = z := ⟨_, rfl⟩
  rw [hz] at HA ⊢
  clear hz
  clear h hw hs hc hb hl ht0 ht1 hn ha hm
  go_enter Tryd.func24, Tryd.ntmps24
  go_upto_region 4 with (first
    | (go_at_call 42; refine (noneQ_any _ _ _ _ _ _ _ _ _ H0.out).mono ?_; rintro e w' ⟨rfl, rfl⟩))
  go_quiet (fail)
  have g1 := ((goes.start H0.out (s.ticks + 1)).drewN nq)
  generalize (w.setCell ⟨p, 48, none⟩ (.int .i64 (s.ticks + 1))).drewN nq = w1 at g1 ⊢
  obtain ⟨_, y1, y2, _, _, _, _, _, _, _, _, y48, y49⟩ := g1.is.cells
  replace y1 : w1.cell? ⟨p, 1, none⟩ = some (.int .i64 s.limit) := y1
  replace y48 : w1.cell? ⟨p, 48, none⟩ = some (.int .i64 (s.ticks + 1)) := y48
  have HG := Lib.hid g1
  clear g1 x2 x9 x10 x48 x49 f48 H0 a1 y49
  go_upto_region 7 with fail
  go_region
  have g2 := HG.out.drew
  generalize w1.drew = w2 at g2 ⊢
  obtain ⟨_, _, _, _, _, _, _, _, _, _, _, _, y49⟩ := g2.is.cells
  replace y49 : w2.cell? ⟨p, 49, none⟩ = some (.bool false) := by rw [← HB.out.2.2.1]; exact y49
  have HQ := Lib.hid g2
  clear g2 HG y1 y48
  go_wp2_with (first
    | (go_at_call 48; (refine (HQ.out.send HB.out.2.2.2 HB.out.1 (by simp [SS.asksK]) HB.out.2.1).mono ?_); rintro e w4 ⟨rfl, K4, T4, h4⟩; obtain ⟨_, _, _, _, _, _, _, _, _, _, _, _, z49⟩ := h4.is.cells; have HQ2 := Lib.hid h4; clear h4 HQ; rename Hid (goes _ _ _ _ _ _ _ _ _ _ _) => HQ)
    | (go_at_call 49; (refine (HQ.out.ask HB.out.1 (by simp)).mono ?_); rintro e w4 ⟨rfl, K4, T4, h4⟩; obtain ⟨_, _, _, _, _, _, _, _, _, _, _, _, z49⟩ := h4.is.cells; have HQ2 := Lib.hid h4; clear h4 HQ; rename Hid (goes _ _ _ _ _ _ _ _ _ _ _) => HQ)
    | (go_at_call 50; (refine (HQ.out.collect (by simp [SS.asksK])).mono ?_); rintro e w5 ⟨v, D, K', rfl, h5⟩; have H5 := Lib.hid h5; clear h5))
  go_ret
  rw [← HA.out]
  exact ⟨v, D, K', rfl, H5.out⟩
set_option maxHeartbeats 1000000 in
theorem tickQ_7 (hw : s.waits = true) (hb : 0 ≤ s.client ∧ s.client ≤ 2) (hl : 1 ≤ s.limit ∧ s.limit ≤ 1000) (ht : 0 ≤ s.ticks ∧ s.ticks ≤ 100000) (hn : s.req.env.length ≤ 1000000) (hm : ¬ s.most < s.ticks + 1) (hc : s.conf.chain ≠ []) (hs : s.sent = true) (ha : ¬ (s.ticks + 1) % s.limit = 0) : Calls Tryd.prog 24 #[.pointer (some ⟨p, 0, none⟩)] w (tickPost p q (s.tickL, (s.setTicks (s.ticks + 1)).setSent (s.sent || decide (s.conf.chain ≠ []))) cv ev F w) := by
  obtain ⟨_, _, x2, _, _, _, _, _, _, x9, x10, x48, x49⟩ := h.cells
  rw [hw] at x9
  rw [hs] at x49
  have f48 := h.row.free 48
  obtain ⟨ht0, ht1⟩ := ht
  have hwr : IntKind.i64.wrap (s.ticks + 1) = s.ticks + 1 := by rw [IntKind.wrap_i64]; omega
  have hw64 : wrap64 (s.ticks + 1) = s.ticks + 1 := by unfold wrap64; omega
  have hmd : (s.ticks + 1).tmod s.limit = (s.ticks + 1) % s.limit := Int.tmod_eq_emod_of_nonneg (by omega)
  have a1 := h.ticks (s.ticks + 1)
  have HE := Lib.hid (show s.tickL = [] ∧ (s.sent || decide (s.conf.chain ≠ [])) = true from by
    unfold SS.tickL
    simp [hc, hs, ha, ifL])
  have H0 := Lib.hid h
  have HB := Lib.hid (And.intro hb (And.intro hn (And.intro hs hc)))
  have ha2 : ((s.ticks + 1) % s.limit == 0) = false := by simp [ha]
  have hl0 : ¬ s.limit = 0 := by omega
  have hl2 : (s.limit == 0) = false := by simp; omega
  have hm2 : s.ticks + 1 ≤ s.most := by omega
  have HA := Lib.hid (show (([] : List PK), (s.setTicks (s.ticks + 1))) = (s.tickL, (s.setTicks (s.ticks + 1)).setSent (s.sent || decide (s.conf.chain ≠ []))) by rw [HE.out.1, HE.out.2]; exact congrArg (Prod.mk _) (setSent_self hs _).symm)
  obtain ⟨z, hz⟩ : ∃ z, (s.tickL, (s.setTicks (s.ticks + 1)).setSent (s.sent || decide (s.conf.chain ≠ []))) = z := ⟨_, rfl⟩
  rw [hz] at HA ⊢
  clear hz
  clear h hw hs hc hb hl ht0 ht1 hn ha hm
  go_enter Tryd.func24, Tryd.ntmps24
  go_upto_region 4 with (first
    | (go_at_call 42; refine (noneQ_any _ _ _ _ _ _ _ _ _ H0.out).mono ?_; rintro e w' ⟨rfl, rfl⟩))
  go_quiet (fail)
  have g1 := ((goes.start H0.out (s.ticks + 1)).drewN nq)
  generalize (w.setCell ⟨p, 48, none⟩ (.int .i64 (s.ticks + 1))).drewN nq = w1 at g1 ⊢
  obtain ⟨_, y1, y2, _, _, _, _, _, _, _, _, y48, y49⟩ := g1.is.cells
  replace y1 : w1.cell? ⟨p, 1, none⟩ = some (.int .i64 s.limit) := y1
  replace y48 : w1.cell? ⟨p, 48, none⟩ = some (.int .i64 (s.ticks + 1)) := y48
  have HG := Lib.hid g1
  clear g1 x2 x9 x10 x48 x49 f48 H0 a1 y49
  go_upto_region 7 with fail
  go_region
  have g2 := HG.out.drew
  generalize w1.drew = w2 at g2 ⊢
  obtain ⟨_, _, _, _, _, _, _, _, _, _, _, _, y49⟩ := g2.is.cells
  replace y49 : w2.cell? ⟨p, 49, none⟩ = some (.bool true) := by rw [← HB.out.2.2.1]; exact y49
  have HQ := Lib.hid g2
  clear g2 HG y1 y48
  go_wp2_with (first
    | (go_at_call 48; (refine (HQ.out.send HB.out.2.2.2 HB.out.1 (by simp [SS.asksK]) HB.out.2.1).mono ?_); rintro e w4 ⟨rfl, K4, T4, h4⟩; obtain ⟨_, _, _, _, _, _, _, _, _, _, _, _, z49⟩ := h4.is.cells; have HQ2 := Lib.hid h4; clear h4 HQ; rename Hid (goes _ _ _ _ _ _ _ _ _ _ _) => HQ)
    | (go_at_call 49; (refine (HQ.out.ask HB.out.1 (by simp)).mono ?_); rintro e w4 ⟨rfl, K4, T4, h4⟩; obtain ⟨_, _, _, _, _, _, _, _, _, _, _, _, z49⟩ := h4.is.cells; have HQ2 := Lib.hid h4; clear h4 HQ; rename Hid (goes _ _ _ _ _ _ _ _ _ _ _) => HQ)
    | (go_at_call 50; (refine (HQ.out.collect (by simp [SS.asksK])).mono ?_); rintro e w5 ⟨v, D, K', rfl, h5⟩; have H5 := Lib.hid h5; clear h5))
  go_ret
  rw [← HA.out]
  exact ⟨v, D, K', rfl, H5.out⟩
set_option maxHeartbeats 1000000 in
theorem tickQ_8 (hw : s.waits = true) (hb : 0 ≤ s.client ∧ s.client ≤ 2) (hl : 1 ≤ s.limit ∧ s.limit ≤ 1000) (ht : 0 ≤ s.ticks ∧ s.ticks ≤ 100000) (hn : s.req.env.length ≤ 1000000) (hm : ¬ s.most < s.ticks + 1) (hc : s.conf.chain ≠ []) (hs : s.sent = true) (ha : (s.ticks + 1) % s.limit = 0) : Calls Tryd.prog 24 #[.pointer (some ⟨p, 0, none⟩)] w (tickPost p q (s.tickL, (s.setTicks (s.ticks + 1)).setSent (s.sent || decide (s.conf.chain ≠ []))) cv ev F w) := by
  obtain ⟨_, _, x2, _, _, _, _, _, _, x9, x10, x48, x49⟩ := h.cells
  rw [hw] at x9
  rw [hs] at x49
  have f48 := h.row.free 48
  obtain ⟨ht0, ht1⟩ := ht
  have hwr : IntKind.i64.wrap (s.ticks + 1) = s.ticks + 1 := by rw [IntKind.wrap_i64]; omega
  have hw64 : wrap64 (s.ticks + 1) = s.ticks + 1 := by unfold wrap64; omega
  have hmd : (s.ticks + 1).tmod s.limit = (s.ticks + 1) % s.limit := Int.tmod_eq_emod_of_nonneg (by omega)
  have a1 := h.ticks (s.ticks + 1)
  have HE := Lib.hid (show s.tickL = s.asksK ++ [s.reqK] ∧ (s.sent || decide (s.conf.chain ≠ [])) = true from by
    unfold SS.tickL
    simp [hc, hs, ha, ifL])
  have H0 := Lib.hid h
  have HB := Lib.hid (And.intro hb (And.intro hn (And.intro hs hc)))
  have ha2 : ((s.ticks + 1) % s.limit == 0) = true := by simp [ha]
  have hl0 : ¬ s.limit = 0 := by omega
  have hl2 : (s.limit == 0) = false := by simp; omega
  have hm2 : s.ticks + 1 ≤ s.most := by omega
  have HA := Lib.hid (show ((s.asksK ++ [s.reqK] : List PK), ((s.setTicks (s.ticks + 1)).setSent true)) = (s.tickL, (s.setTicks (s.ticks + 1)).setSent (s.sent || decide (s.conf.chain ≠ []))) by rw [HE.out.1, HE.out.2])
  obtain ⟨z, hz⟩ : ∃ z, (s.tickL, (s.setTicks (s.ticks + 1)).setSent (s.sent || decide (s.conf.chain ≠ []))) = z := ⟨_, rfl⟩
  rw [hz] at HA ⊢
  clear hz
  clear h hw hs hc hb hl ht0 ht1 hn ha hm
  go_enter Tryd.func24, Tryd.ntmps24
  go_upto_region 4 with (first
    | (go_at_call 42; refine (noneQ_any _ _ _ _ _ _ _ _ _ H0.out).mono ?_; rintro e w' ⟨rfl, rfl⟩))
  go_quiet (fail)
  have g1 := ((goes.start H0.out (s.ticks + 1)).drewN nq)
  generalize (w.setCell ⟨p, 48, none⟩ (.int .i64 (s.ticks + 1))).drewN nq = w1 at g1 ⊢
  obtain ⟨_, y1, y2, _, _, _, _, _, _, _, _, y48, y49⟩ := g1.is.cells
  replace y1 : w1.cell? ⟨p, 1, none⟩ = some (.int .i64 s.limit) := y1
  replace y48 : w1.cell? ⟨p, 48, none⟩ = some (.int .i64 (s.ticks + 1)) := y48
  have HG := Lib.hid g1
  clear g1 x2 x9 x10 x48 x49 f48 H0 a1 y49
  go_upto_region 7 with fail
  go_region
  have g2 := HG.out.drew
  generalize w1.drew = w2 at g2 ⊢
  obtain ⟨_, _, _, _, _, _, _, _, _, _, _, _, y49⟩ := g2.is.cells
  replace y49 : w2.cell? ⟨p, 49, none⟩ = some (.bool true) := by rw [← HB.out.2.2.1]; exact y49
  have HQ := Lib.hid g2
  clear g2 HG y1 y48
  go_wp2_with (first
    | (go_at_call 48; (refine (HQ.out.send HB.out.2.2.2 HB.out.1 (by simp [SS.asksK]) HB.out.2.1).mono ?_); rintro e w4 ⟨rfl, K4, T4, h4⟩; obtain ⟨_, _, _, _, _, _, _, _, _, _, _, _, z49⟩ := h4.is.cells; have HQ2 := Lib.hid h4; clear h4 HQ; rename Hid (goes _ _ _ _ _ _ _ _ _ _ _) => HQ)
    | (go_at_call 49; (refine (HQ.out.ask HB.out.1 (by simp)).mono ?_); rintro e w4 ⟨rfl, K4, T4, h4⟩; obtain ⟨_, _, _, _, _, _, _, _, _, _, _, _, z49⟩ := h4.is.cells; have HQ2 := Lib.hid h4; clear h4 HQ; rename Hid (goes _ _ _ _ _ _ _ _ _ _ _) => HQ)
    | (go_at_call 50; (refine (HQ.out.collect (by simp [SS.asksK])).mono ?_); rintro e w5 ⟨v, D, K', rfl, h5⟩; have H5 := Lib.hid h5; clear h5))
  go_ret
  rw [← HA.out]
  exact ⟨v, D, K', rfl, H5.out⟩
theorem tickQ_any (hb : 0 ≤ s.client ∧ s.client ≤ 2) (hl : 1 ≤ s.limit ∧ s.limit ≤ 1000) (ht : 0 ≤ s.ticks ∧ s.ticks ≤ 100000) (hn : s.req.env.length ≤ 1000000) : Calls Tryd.prog 24 #[.pointer (some ⟨p, 0, none⟩)] w (tickPost p q s.tickP cv ev F w) := by
  unfold SS.tickP
  cases hw : s.waits with
  | false => rw [if_pos rfl]; exact tickQ_none p q s cv ev F w h hw
  | true =>
    rw [if_neg (by simp)]
    by_cases hm : s.most < s.ticks + 1
    · rw [if_pos hm]; exact tickQ_late p q s cv ev F w h hw ht hm
    · rw [if_neg hm]
      by_cases hc : s.conf.chain = []
      · cases hs : s.sent with
        | false =>
          rw [← hs]
          by_cases ha : (s.ticks + 1) % s.limit = 0
          · exact tickQ_2 p q s cv ev F w h hw hb hl ht hn hm hc hs ha
          · exact tickQ_1 p q s cv ev F w h hw hb hl ht hn hm hc hs ha
        | true =>
          rw [← hs]
          by_cases ha : (s.ticks + 1) % s.limit = 0
          · exact tickQ_4 p q s cv ev F w h hw hb hl ht hn hm hc hs ha
          · exact tickQ_3 p q s cv ev F w h hw hb hl ht hn hm hc hs ha
      · cases hs : s.sent with
        | false =>
          rw [← hs]
          by_cases ha : (s.ticks + 1) % s.limit = 0
          · exact tickQ_6 p q s cv ev F w h hw hb hl ht hn hm hc hs ha
          · exact tickQ_5 p q s cv ev F w h hw hb hl ht hn hm hc hs ha
        | true =>
          rw [← hs]
          by_cases ha : (s.ticks + 1) % s.limit = 0
          · exact tickQ_8 p q s cv ev F w h hw hb hl ht hn hm hc hs ha
          · exact tickQ_7 p q s cv ev F w h hw hb hl ht hn hm hc hs ha
end
end Go.Proofs.YtkpmlcgbffdloaaDoor
