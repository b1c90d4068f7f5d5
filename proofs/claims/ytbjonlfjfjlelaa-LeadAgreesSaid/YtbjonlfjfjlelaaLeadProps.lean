/-
  LEAD: the law's own 'proposes': a master that leads proposes, and is accepted by one of them.
-/
import Derived.Test.YtbjonlfjfjlelaaLeadCouncil
import Derived.BigQuiet
import Derived.Deep.RegionHeld3
namespace Go.Proofs.Ytbjonlfjfjlelaa
open Go.RowKit
set_option linter.unusedVariables false
set_option maxRecDepth 100000

theorem upd_same {α : Type} (f : Nat → α) (k : Nat) : upd f k (f k) = f := funext fun i => by
  by_cases e : i = k
  · rw [e, upd_at]
  · rw [upd_ne _ _ e]
theorem inv.pending {s : Nat → LS} {P B X : Nat → Int} {ch : Int} {V : Int → Int} {A : Nat → Int → Prop} {r : Int} (h : inv s P B X ch V A r) {i : Nat} (hi : i < 3) (hp : (s i).pend = true) : pendOk V A (s i) := by
  rcases h.lead i hi with q | q | q | q
  · rw [q.2] at hp; cases hp
  · rw [q.pend] at hp; cases hp
  · exact q
  · rw [q.2.1] at hp; cases hp
def propsMid (w0 : World) (g : Nat) (p : Nat → Nat) (P B X : Nat → Int) (ch : Int) (A : Nat → Int → Prop) (r : Int) (who q : Nat) (wx : World) : Prop :=
  ∃ (F : Nat → List Nat) (s : Nat → LS) (V : Int → Int) (A5 : Option Addr) (n5 : Nat) (G5 : List Nat), councilAt 3 w0 wx g p F s P B X ch (G5 ++ [q]) ∧ inv s P B X ch V A r ∧ pendOk V A (s who) ∧
    rowAt wx q 55 #[.int .i64 1, .int .i64 1, .slice A5 1 n5] ∧ held wx G5 (.slice A5 1 n5) [V (s who).bal] ∧ q ∉ G5
def propsPost (w0 : World) (g : Nat) (p : Nat → Nat) (r : Int) (e : Ending) (w' : World) : Prop :=
  e = .returned (.bool true) ∧ ∃ (F : Nat → List Nat) (s : Nat → LS) (P B X : Nat → Int) (ch : Int) (V : Int → Int) (A : Nat → Int → Prop), councilAt 3 w0 w' g p F s P B X ch [] ∧ inv s P B X ch V A r
theorem ready_prop {V : Int → Int} {A : Nat → Int → Prop} {P : Nat → Int} {s : LS} (h : readyOk V A P s) (v : Int) (hv : 10 ≤ v ∧ v ≤ 12) :
    ∃ x, (10 ≤ x ∧ x ≤ 12) ∧ (∀ d, findV s.bound 1 = some d → d.c = one x) ∧ s.propose ⟨1, 1, [v]⟩ = (0, one x, { s with pend := true, prop := one x }) := by
  have hp : s.propose ⟨1, 1, [v]⟩ = (0, s.propOf ⟨1, 1, [v]⟩, { s with pend := true, prop := s.propOf ⟨1, 1, [v]⟩ }) := by
    unfold LS.propose
    rw [if_neg (by simp [h.ph, h.pend]), if_neg (by show ¬ (1 : Int) < s.frm; rw [h.frm]; omega)]
  rw [hp]
  cases hf : findV s.bound 1 with
  | none =>
    have hpo : s.propOf ⟨1, 1, [v]⟩ = one v := by
      show (match findV s.bound 1 with | none => (⟨1, 1, [v]⟩ : CS) | some d => d.c) = _
      rw [hf]; rfl
    rw [hpo]
    exact ⟨v, hv, by simp, rfl⟩
  | some d =>
    obtain ⟨x, hx1, hx2, hx⟩ := h.well d hf
    have hpo : s.propOf ⟨1, 1, [v]⟩ = one x := by
      show (match findV s.bound 1 with | none => (⟨1, 1, [v]⟩ : CS) | some d => d.c) = _
      rw [hf]; exact hx
    rw [hpo]
    refine ⟨x, ⟨hx1, hx2⟩, fun d' hd => ?_, rfl⟩
    injection hd with hd
    rw [← hd]; exact hx
theorem boundNew {c : CS} {b : Bool} {w w' : World} {e : Ending} (h : boundPost c b w e w') : ∃ A n G, e = .returned (.tuple #[.agg #[.int .i64 c.num, .int .i64 c.full, .slice A c.chain.length n], .bool b]) ∧ held w' G (.slice A c.chain.length n) c.chain ∧ (∀ y ∈ G, w.heap.size ≤ y ∧ y < w'.heap.size) ∧ keepBut [] w w' := by
  obtain ⟨cv, he, G, hh, hG, hk⟩ := h
  obtain ⟨A, n, g, rfl, h2⟩ := id hh
  exact ⟨A, n, G, he, hh, hG, hk⟩

set_option maxHeartbeats 4000000 in
theorem props_any (w0 w : World) (g : Nat) (p : Nat → Nat) (F : Nat → List Nat) (s : Nat → LS) (P B X : Nat → Int) (ch : Int) (V : Int → Int) (A : Nat → Int → Prop) (r : Int) (who whom : Nat)
    (h : councilAt 3 w0 w g p F s P B X ch []) (hi : inv s P B X ch V A r) (hr : r ≤ 1000) (hw : who < 3) (hwm : whom < 3) :
    Calls Try.prog 41 #[.pointer (some ⟨g, 0, none⟩), .int .i64 (who : Int), .int .i64 (whom : Int)] w (propsPost w0 g p r) := by
  have hw' : (who : Int) < 3 := by omega
  have hwm' : (whom : Int) < 3 := by omega
  have c2 := h.pt who hw hw
  have H := Lib.hid (And.intro h hi)
  have hsp : ((s who).pend = true) ∨ ((s who).pend = false ∧ ((s who).ph ≠ 2 ∨ ((s who).ph = 2 ∧ (s who).frm = 2))) ∨ readyOk V A P (s who) := by
    rcases hi.lead who hw with q | q | q | q
    · exact .inr (.inl ⟨q.2, .inl q.1⟩)
    · exact .inr (.inr q)
    · exact .inl q.pend
    · exact .inr (.inl ⟨q.2.1, .inr ⟨q.1, q.2.2⟩⟩)
  clear h hi
  go_enter Try.func41, Try.ntmps41
  go_wp2_with fail
  obtain ⟨c, bo, hcall, hcb⟩ : ∃ (c : CS) (bo : Bool), Calls Try.prog 33 #[.pointer (some ⟨p who, 0, none⟩)] w (boundPost c bo w) ∧
      ((bo = true ∧ (s who).pend = true ∧ c = (s who).prop) ∨ (bo = false ∧ c = CS.zero ∧ (s who).pend = false ∧ ((s who).ph ≠ 2 ∨ ((s who).ph = 2 ∧ (s who).frm = 2))) ∨ (bo = false ∧ c = CS.zero ∧ readyOk V A P (s who))) := by
    rcases hsp with hp | ⟨hp, hq⟩ | hp
    · exact ⟨_, _, pending_yes (p who) (F who) (s who) _ (H.out.1.is who hw) hp, .inl ⟨rfl, hp, rfl⟩⟩
    · exact ⟨_, _, pending_no (p who) (F who) (s who) _ (H.out.1.is who hw) hp, .inr (.inl ⟨rfl, rfl, hp, hq⟩)⟩
    · exact ⟨_, _, pending_no (p who) (F who) (s who) _ (H.out.1.is who hw) hp.pend, .inr (.inr ⟨rfl, rfl, hp⟩)⟩
  clear hsp
  refine hcall.mono ?_; intro e w1 hq
  obtain ⟨A1, n1, G1, rfl, hh1, hG1, hk1⟩ := boundNew hq
  have hm1 := H.out.1.more hk1 hG1
  have hka := (keepBut.refl [] w1).alloc (.cells #[.int .i64 c.num, .int .i64 c.full, .slice A1 c.chain.length n1] 55)
  have hm2 := hm1.more (E' := [w1.heap.size]) hka (fun y hy => by simp at hy; subst hy; simp)
  have hr2 := rowAt.new w1 55 #[.int .i64 c.num, .int .i64 c.full, .slice A1 c.chain.length n1]
  have hm3 := hm2.sub (E' := G1 ++ [w1.heap.size]) (fun y hy => by simpa [or_comm] using hy)
  have hh2 := hh1.keep hka (by simp)
  have hqG : w1.heap.size ∉ G1 := fun hm => Nat.lt_irrefl _ (hG1 _ hm).2
  have hwq : w.heap.size ≤ w1.heap.size := hk1.size
  have H2 := Lib.hid (And.intro hm3 (And.intro hr2 (And.intro hh2 hqG)))
  clear hcall hq hh1 hG1 hk1 hm1 hka hm2 hr2 hm3 hh2 hqG
  go_upto_if 27 with fail
  generalize w1.alloc (.cells #[.int .i64 c.num, .int .i64 c.full, .slice A1 c.chain.length n1] 55) = w2 at *
  generalize w1.heap.size = q at *
  go_cut [] (fun wx => propsMid w0 g p P B X ch A r who q wx)
  case first =>
    rcases hcb with ⟨rfl, hp, rfl⟩ | ⟨rfl, rfl, hp, hph⟩ | ⟨rfl, rfl, hp⟩
    · have hpd := H.out.2.pending hw hp
      have HM : Hid (propsMid w0 g p P B X ch A r who q w2) := Lib.hid ⟨F, s, V, A1, n1, G1, H2.out.1, H.out.2, hpd, by have := H2.out.2.1; rw [hpd.prop] at this; exact this, by have := H2.out.2.2.1; rw [hpd.prop] at this; exact this, H2.out.2.2.2⟩
      clear hpd
      go_wp2_with fail
      go_meet
      exact HM.out
    · obtain ⟨er, her, hne⟩ : ∃ er : Int, ((((s who).ph ≠ 2 ∨ (s who).pend = true) ∧ er = 170) ∨ ((s who).ph = 2 ∧ (s who).pend = false ∧ (1 : Int) < (s who).frm ∧ er = 2)) ∧ er ≠ 0 := by
        rcases hph with q | ⟨q1, q2⟩
        · exact ⟨170, .inl ⟨.inl q, rfl⟩, by omega⟩
        · exact ⟨2, .inr ⟨q1, hp, by omega, rfl⟩, by omega⟩
      go_wp2_with fail
      refine (conf_any 1 (10 + (who : Int)) _).mono ?_; intro e w3 hq3; obtain ⟨A3, n3, G3, rfl, hh3, hG3, hk3⟩ := hq3.arg; clear hq3
      have H3 := Lib.hid (H2.out.1.over hk3)
      clear hh3 hG3 hk3
      go_wp2_with fail
      refine (propose_no (p who) (F who) (s who) ⟨1, 1, [10 + (who : Int)]⟩ A3 _ n3 _ (H3.out.is who hw) er her).mono ?_; intro e w4 hq4
      obtain ⟨A4, n4, G4, F4, rfl, h4, hh4, _⟩ := H3.out.prop hw hq4
      rw [upd_same] at h4
      have H4 := Lib.hid ((h4.over ((keepBut.refl [] w4).alloc (.cells #[.int .i64 0, .int .i64 0, .slice A4 0 n4] 55))).drop)
      clear hq4 h4 hh4 her
      go_wp2_with fail
      go_ret
      exact ⟨rfl, _, _, _, _, _, _, _, _, H4.out, H.out.2⟩
    · obtain ⟨x, hx, hd, hpro⟩ := ready_prop hp (10 + (who : Int)) (by omega)
      have hinv := H.out.2.propose hw hp hx hd
      have hpp := hinv.pending hw (by rw [upd_at])
      rw [upd_at] at hpp
      have HI := Lib.hid (And.intro hinv (And.intro hpp hpro))
      have HP := Lib.hid hp
      clear hinv hpp hpro hd hx hp
      go_wp2_with fail
      refine (conf_any 1 (10 + (who : Int)) _).mono ?_; intro e w3 hq3; obtain ⟨A3, n3, G3, rfl, hh3, hG3, hk3⟩ := hq3.arg; clear hq3
      have hlt2 := (H2.out.1.is who hw).lt
      have H3 := Lib.hid (And.intro (H2.out.1.over hk3) (And.intro (hk3.row H2.out.2.1 (by simp)) (And.intro hh3 (fun y (hy : y ∈ G3) => (⟨fun hm => by have := hlt2 y hm; have := (hG3 y hy).1; omega, (hG3 y hy).2⟩ : y ∉ F who ∧ y < w3.heap.size)))))
      clear hh3 hG3 hk3 hlt2
      go_wp2_with fail
      refine (propose_yes (p who) (F who) G3 (s who) ⟨1, 1, [10 + (who : Int)]⟩ (.slice A3 1 n3) _ (H3.out.1.is who hw) H3.out.2.2.1 H3.out.2.2.2 HP.out.ph HP.out.pend (by rw [HP.out.frm]; exact Int.le_refl _)).mono ?_; intro e w4 hq4
      rw [HI.out.2.2] at hq4
      obtain ⟨A4, n4, G4, F4, he4, h4, hh4, hk4, hG4⟩ := H3.out.1.prop hw hq4
      have he5 : e = .returned (.tuple #[.agg #[.int .i64 1, .int .i64 1, .slice A4 1 n4], .int .i64 0]) := he4
      subst he5
      clear he4
      have hr4 := hk4.row H3.out.2.1 (H3.out.1.out (by simp) who hw)
      have hqG : q ∉ G4 := fun hm => by have := hG4 q hm; have := H3.out.2.1.lt; omega
      have ka := (keepBut.refl [] w4).alloc (.cells #[.int .i64 1, .int .i64 1, .slice A4 1 n4] 55)
      have hr5 := ka.row hr4 (by simp)
      have h5 := (h4.over ka).sub (E' := G4 ++ [q]) (fun y hy => by simp at hy ⊢; rcases hy with q | q <;> simp [q])
      have hh5 := hh4.keep ka (by simp)
      have z0 : (w4.alloc (.cells #[.int .i64 1, .int .i64 1, .slice A4 1 n4] 55)).cell? ⟨q, 0, none⟩ = some (.int .i64 0) := hr5.cell 0
      have z1 : (w4.alloc (.cells #[.int .i64 1, .int .i64 1, .slice A4 1 n4] 55)).cell? ⟨q, 1, none⟩ = some (.int .i64 0) := hr5.cell 1
      have z2 : (w4.alloc (.cells #[.int .i64 1, .int .i64 1, .slice A4 1 n4] 55)).cell? ⟨q, 2, none⟩ = some (.slice A1 0 n1) := hr5.cell 2
      have f0 := hr5.free 0
      have f1 := hr5.free 1
      have f2 := hr5.free 2
      have H5 := Lib.hid (And.intro h5 (And.intro hr5 (And.intro hh5 hqG)))
      clear hq4 h4 hh4 hk4 hG4 hr4 hqG ka hr5 h5 hh5
      go_wp2_with fail
      go_meet
      have kq := (((keepBut.refl [q] (w4.alloc (.cells #[.int .i64 1, .int .i64 1, .slice A4 1 n4] 55))).setCell ⟨q, 0, none⟩ (.int .i64 1) (by simp)).setCell ⟨q, 1, none⟩ (.int .i64 1) (by simp)).setCell ⟨q, 2, none⟩ (.slice A4 1 n4) (by simp)
      have r6 := ((H5.out.2.1.set 0 (.int .i64 1)).set 1 (.int .i64 1)).set 2 (.slice A4 1 n4)
      refine ⟨F4, _, _, A4, n4, G4, H5.out.1.store (by simp) kq, HI.out.1, by rw [upd_at]; exact HI.out.2.1, by simpa using r6, ?_, H5.out.2.2.2⟩
      rw [upd_at]
      have := (H5.out.2.2.1.keep kq (fun y hy hm => H5.out.2.2.2 (by rw [← List.mem_singleton.1 hm]; exact hy)))
      show held _ G4 (.slice A4 1 n4) [(fun b => if b = (s who).bal then x else V b) (s who).bal]
      simp only [if_true]
      exact this
  case rest =>
    obtain ⟨F5, s5, V5, A5, n5, G5, h5, hi5, hp5, hr5, hh5, hq5⟩ := hcut
    obtain ⟨bb, hbb⟩ : ∃ bb, (s5 who).bal = bb := ⟨_, rfl⟩
    have c1 := (h5.cells whom hwm).1
    have H5 := Lib.hid (And.intro h5 (And.intro hi5 (And.intro hp5 (And.intro hr5 (And.intro hh5 hq5)))))
    have z0 : wc.cell? ⟨q, 0, none⟩ = some (.int .i64 1) := hr5.cell 0
    have z1 : wc.cell? ⟨q, 1, none⟩ = some (.int .i64 1) := hr5.cell 1
    have z2 : wc.cell? ⟨q, 2, none⟩ = some (.slice A5 1 n5) := hr5.cell 2
    obtain ⟨d1, d2, d3, A6, n6, G6, d4, _⟩ := (h5.cells whom hwm).2
    have f0 := h5.free (3 + whom * 5)
    have f1 := h5.free (3 + whom * 5 + 1)
    have f2 := h5.free (3 + whom * 5 + 2)
    have f3 := h5.free (3 + whom * 5 + 3)
    have f4 := h5.free (3 + whom * 5 + 4)
    clear h5 hi5 hp5 hr5 hh5 hq5
    go_wp2_with fail
    refine (ballotL_any (p who) (F5 who) (s5 who) _ (H5.out.1.is who hw)).mono ?_; rintro e w6 ⟨rfl, rfl⟩
    rw [hbb]
    by_cases hlt : bb < P whom
    · go_wp2_with fail
      go_ret
      exact ⟨rfl, _, _, _, _, _, _, _, _, H5.out.1.drop, H5.out.2.1⟩
    · go_upto_region 11 with fail
      go_region
      have hb0 : bb ≠ 0 := by have := (H5.out.2.1.fresh _ H5.out.2.2.1.val).1; omega
      obtain ⟨x, hx⟩ : ∃ x, V5 bb = x := ⟨_, rfl⟩
      have hx0 : 10 ≤ x ∧ x ≤ 12 := by rw [← hx, ← hbb]; exact H5.out.2.1.val _ H5.out.2.2.1.val
      have hh5 := H5.out.2.2.2.2.1
      rw [hbb, hx] at hh5
      obtain ⟨h6, k6⟩ := councilAt.vote G5 [q] rfl (by simp; exact H5.out.2.2.2.2.2) H5.out.1 whom hwm bb x hb0 (.slice A5 1 n5) hh5
      have kd := (keepBut.refl [] (((((wc.setCell ⟨g, 3 + whom * 5, none⟩ (.int .i64 bb)).setCell ⟨g, 3 + whom * 5 + 1, none⟩ (.int .i64 bb)).setCell ⟨g, 3 + whom * 5 + 2, none⟩ (.int .i64 1)).setCell ⟨g, 3 + whom * 5 + 3, none⟩ (.int .i64 1)).setCell ⟨g, 3 + whom * 5 + 4, none⟩ (.slice A5 1 n5))).drew
      have h7 := h6.over kd
      have k7 := k6.then kd (by simp)
      have i7 := H5.out.2.1.accept hw hwm H5.out.2.2.1 (k := whom) (by rw [hbb]; omega)
      have p7 := i7.pending hw H5.out.2.2.1.pend
      have y7 := i7.yes hw hwm p7 (.inr ⟨rfl, rfl⟩)
      rw [hbb, hx] at i7 y7
      have r7 := k7.row H5.out.2.2.2.1 (by simp; exact H5.out.1.notg (by simp))
      have hh7 := hh5.keep k7 (fun y hy => by simp; exact H5.out.1.notg (List.mem_append.2 (.inl hy)))
      have hb7 := i7.b7 who hw
      have hbl := i7.bal who hw
      have hid := i7.id who hw
      rw [hbb] at hbl
      have H7 := Lib.hid (And.intro h7 (And.intro r7 hh7))
      clear h6 k6 kd h7 k7 r7 hh7 hh5 z0 z1 z2 d1 d2 d3 d4 f0 f1 f2 f3 f4 c1
      generalize World.drew (((((wc.setCell ⟨g, 3 + whom * 5, none⟩ (.int .i64 bb)).setCell ⟨g, 3 + whom * 5 + 1, none⟩ (.int .i64 bb)).setCell ⟨g, 3 + whom * 5 + 2, none⟩ (.int .i64 1)).setCell ⟨g, 3 + whom * 5 + 3, none⟩ (.int .i64 1)).setCell ⟨g, 3 + whom * 5 + 4, none⟩ (.slice A5 1 n5)) = w7 at *
      have hy := yes_yes (p who) (F5 who) (s5 who) whom w7 (H7.out.1.is who hw) ⟨by omega, by omega, by omega, by omega, hb7.1, hb7.2⟩ hwm p7.ph p7.pend
      rw [p7.prop, hbb] at hy
      have HY := Lib.hid (And.intro i7 y7)
      clear i7 p7 y7 hb7 hbl hid
      go_wp2_with fail
      refine hy.mono ?_
      intro e w8 hq8
      obtain ⟨rfl, F8, h8, k8⟩ := H7.out.1.ww hw hq8
      have r8 := k8.row H7.out.2.1 (H7.out.1.out (by simp) who hw)
      have hh8 := H7.out.2.2.keep k8 (fun y hy => H5.out.1.out (List.mem_append.2 (.inl hy)) who hw)
      have z2 : w8.cell? ⟨q, 2, none⟩ = some (.slice A5 1 n5) := r8.cell 2
      have c18 := h8.chose
      have f18 := h8.free 18
      obtain ⟨y8, hy8⟩ : ∃ y8, (s5 who).yes whom = y8 := ⟨_, rfl⟩
      have HY2 := HY.out.2
      rw [hy8] at HY2 h8 ⊢
      obtain ⟨won, s8⟩ := y8
      have H8 := Lib.hid (And.intro h8 HY2)
      have HH8 := Lib.hid hh8
      clear hy hq8 h8 k8 r8 hh8 hy8 HY2
      cases won with
      | false =>
        go_wp2_with fail
        go_ret
        exact ⟨rfl, _, _, _, _, _, _, _, _, H8.out.1.drop, H8.out.2.1⟩
      | true =>
        obtain ⟨-, hn5, gg, o5, x', rfl, hx', hcx⟩ := HH8.out.cell 0 (by simp)
        obtain rfl : x = x' := by simpa using hx'
        have hcx0 : w8.cell? ⟨gg, o5, none⟩ = some (.int .i64 x) := hcx
        have hor := H8.out.2.2 rfl
        clear hx' hcx
        have hinv : Hid (inv (upd s5 who s8) (upd P whom bb) (upd B whom bb) (upd X whom x) x V5 (fun j c => A j c ∨ j = whom ∧ c = bb) r) := Lib.hid (by have := H8.out.2.1; simpa using this)
        have hxn : x ≠ 0 := by omega
        go_upto_region 16 with fail
        rcases hor with h0 | h0
        · rw [h0] at c18
          go_region
          go_wp2_with fail
          go_ret
          exact ⟨rfl, _, _, _, _, _, _, _, _, ((H8.out.1.over ((keepBut.refl [] w8).drew)).setCh x).drop, hinv.out⟩
        · rw [h0] at c18
          have hx10 : (x == 0) = false := by simpa using hxn
          have hx11 : (x != 0) = true := by simpa using hxn
          go_quiet (fail)
          go_wp2_with fail
          go_ret
          exact ⟨rfl, _, _, _, _, _, _, _, _, ((H8.out.1.over ((keepBut.refl [] w8).drewN nq)).setCh x).drop, hinv.out⟩
end Go.Proofs.Ytbjonlfjfjlelaa
