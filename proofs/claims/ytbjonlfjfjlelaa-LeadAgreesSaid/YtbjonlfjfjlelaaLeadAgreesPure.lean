/-
  LEAD, for LeadAgrees: what holds of three masters who keep their promises and tell their votes (no memory here).
-/
import Derived.Test.YtbjonlfjfjlelaaLeadBindsPure
namespace Go.Proofs.Ytbjonlfjfjlelaa
open Go.RowKit
set_option linter.unusedVariables false
set_option maxRecDepth 100000

def upd {α : Type} (f : Nat → α) (k : Nat) (a : α) : Nat → α := fun i => if i = k then a else f i
theorem upd_at {α : Type} (f : Nat → α) (k : Nat) (a : α) : upd f k a k = a := if_pos rfl
theorem upd_ne {α : Type} (f : Nat → α) {k i : Nat} (a : α) (h : i ≠ k) : upd f k a i = f i := if_neg h

def one (x : Int) : CS := ⟨1, 1, [x]⟩
/-- two masters will never accept the ballot b0 -/
def blocked (A : Nat → Int → Prop) (P : Nat → Int) (b0 : Int) : Prop := ∃ k l, k < 3 ∧ l < 3 ∧ k ≠ l ∧ ¬ A k b0 ∧ b0 < P k ∧ ¬ A l b0 ∧ b0 < P l
def bitB (m k : Nat) : Bool := m / 2 ^ k % 2 == 1
structure readyOk (V : Int → Int) (A : Nat → Int → Prop) (P : Nat → Int) (s : LS) : Prop where
  ph : s.ph = 2
  frm : s.frm = 1
  pend : s.pend = false
  acc : s.acc = 0
  none : V s.bal = 0
  pos : 0 < s.bal
  below : ∀ b0, 0 < b0 → b0 < s.bal → blocked A P b0 ∨ (V b0 ≠ 0 ∧ ∃ d, findV s.bound 1 = some d ∧ d.c = one (V b0))
  well : ∀ d, findV s.bound 1 = some d → ∃ x, 10 ≤ x ∧ x ≤ 12 ∧ d.c = one x
structure pendOk (V : Int → Int) (A : Nat → Int → Prop) (s : LS) : Prop where
  ph : s.ph = 2
  pend : s.pend = true
  val : V s.bal ≠ 0
  prop : s.prop = one (V s.bal)
  bits : ∀ k, k < 3 → bitB s.acc k = true → A k s.bal
def leadOk (V : Int → Int) (A : Nat → Int → Prop) (P : Nat → Int) (s : LS) : Prop :=
  (s.ph ≠ 2 ∧ s.pend = false) ∨ readyOk V A P s ∨ pendOk V A s ∨ (s.ph = 2 ∧ s.pend = false ∧ s.frm = 2)
structure inv (s : Nat → LS) (P B X : Nat → Int) (ch : Int) (V : Int → Int) (A : Nat → Int → Prop) (r : Int) : Prop where
  id : ∀ i, i < 3 → (s i).id = i
  bal : ∀ i, i < 3 → 0 ≤ (s i).bal ∧ (s i).bal ≤ r ∧ ((s i).bal = 0 ∨ (s i).bal % 3 = i)
  b7 : ∀ i, i < 3 → (s i).prom ≤ 7 ∧ (s i).acc ≤ 7
  prom : ∀ k, k < 3 → 0 ≤ P k ∧ P k ≤ r
  vote : ∀ k, k < 3 → 0 ≤ B k ∧ B k ≤ P k ∧ (B k ≠ 0 → A k (B k) ∧ V (B k) = X k)
  acc : ∀ k b, A k b → k < 3 ∧ 0 < b ∧ b ≤ B k ∧ V b ≠ 0
  val : ∀ b, V b ≠ 0 → 10 ≤ V b ∧ V b ≤ 12
  fresh : ∀ b, V b ≠ 0 → 0 < b ∧ ∃ i : Nat, i < 3 ∧ b % 3 = i ∧ b ≤ (s i).bal
  safe : ∀ b b0, V b ≠ 0 → 0 < b0 → b0 < b → V b0 = V b ∨ blocked A P b0
  lead : ∀ i, i < 3 → leadOk V A P (s i)
  chosen : ch ≠ 0 → ∃ b k l, k ≠ l ∧ A k b ∧ A l b ∧ V b = ch

theorem inv.zero : inv (fun i => LS.new i) (fun _ => 0) (fun _ => 0) (fun _ => 0) 0 (fun _ => 0) (fun _ _ => False) 0 :=
  ⟨fun i _ => rfl, fun i _ => by simp [LS.new], fun i _ => by simp [LS.new], fun k _ => by simp, fun k _ => by simp, fun k b h => h.elim, fun b h => absurd rfl h, fun b h => absurd rfl h,
    fun b b0 h => absurd rfl h, fun i _ => .inl ⟨by simp [LS.new], rfl⟩, fun h => absurd rfl h⟩
theorem inv.grow {s : Nat → LS} {P B X : Nat → Int} {ch : Int} {V : Int → Int} {A : Nat → Int → Prop} {r r' : Int} (h : inv s P B X ch V A r) (hr : r ≤ r') : inv s P B X ch V A r' :=
  ⟨h.id, fun i hi => by have := h.bal i hi; exact ⟨this.1, by omega, this.2.2⟩, h.b7, fun k hk => by have := h.prom k hk; omega, h.vote, h.acc, h.val, h.fresh, h.safe, h.lead, h.chosen⟩
/-- a leader turns -/
theorem inv.setLead {s : Nat → LS} {P B X : Nat → Int} {ch : Int} {V : Int → Int} {A : Nat → Int → Prop} {r : Int} (h : inv s P B X ch V A r) {i : Nat} (hi : i < 3) {s' : LS}
    (h1 : s'.id = i) (h2 : (s i).bal ≤ s'.bal) (h3 : s'.bal ≤ r) (h4 : s'.bal = 0 ∨ s'.bal % 3 = i) (h5 : s'.prom ≤ 7) (h6 : s'.acc ≤ 7) (h7 : leadOk V A P s') : inv (upd s i s') P B X ch V A r := by
  refine ⟨fun j hj => ?_, fun j hj => ?_, fun j hj => ?_, h.prom, h.vote, h.acc, h.val, fun b hb => ?_, h.safe, fun j hj => ?_, h.chosen⟩
  · by_cases e : j = i
    · subst e; rw [upd_at]; exact h1
    · rw [upd_ne _ _ e]; exact h.id j hj
  · by_cases e : j = i
    · subst e; rw [upd_at]; have := h.bal j hj; exact ⟨by omega, h3, h4⟩
    · rw [upd_ne _ _ e]; exact h.bal j hj
  · by_cases e : j = i
    · subst e; rw [upd_at]; exact ⟨h5, h6⟩
    · rw [upd_ne _ _ e]; exact h.b7 j hj
  · obtain ⟨q, j, hj, q1, q2⟩ := h.fresh b hb
    refine ⟨q, j, hj, q1, ?_⟩
    by_cases e : j = i
    · subst e; rw [upd_at]; omega
    · rw [upd_ne _ _ e]; exact q2
  · by_cases e : j = i
    · subst e; rw [upd_at]; exact h7
    · rw [upd_ne _ _ e]; exact h.lead j hj
theorem blocked.grow {A A' : Nat → Int → Prop} {P P' : Nat → Int} {b0 : Int} (h : blocked A P b0) (hP : ∀ k, P k ≤ P' k) (hA : ∀ k, b0 < P k → ¬ A k b0 → ¬ A' k b0) : blocked A' P' b0 := by
  obtain ⟨k, l, a1, a2, a3, a4, a5, a6, a7⟩ := h
  exact ⟨k, l, a1, a2, a3, hA k a5 a4, Int.lt_of_lt_of_le a5 (hP k), hA l a7 a6, Int.lt_of_lt_of_le a7 (hP l)⟩
theorem leadOk.grow {V : Int → Int} {A A' : Nat → Int → Prop} {P P' : Nat → Int} {s : LS} (h : leadOk V A P s) (hP : ∀ k, P k ≤ P' k) (hA : ∀ b0 k, b0 < P k → ¬ A k b0 → ¬ A' k b0) (hA2 : ∀ k b, A k b → A' k b) : leadOk V A' P' s := by
  rcases h with h | h | h | h
  · exact .inl h
  · exact .inr (.inl ⟨h.ph, h.frm, h.pend, h.acc, h.none, h.pos, fun b0 q1 q2 => (h.below b0 q1 q2).imp (fun q => q.grow hP (hA b0)) id, h.well⟩)
  · exact .inr (.inr (.inl ⟨h.ph, h.pend, h.val, h.prop, fun k q1 q2 => hA2 _ _ (h.bits k q1 q2)⟩))
  · exact .inr (.inr (.inr h))
theorem upd_ge {P : Nat → Int} {k : Nat} {b : Int} (h : P k ≤ b) (j : Nat) : P j ≤ upd P k b j := by
  by_cases e : j = k
  · subst e; rw [upd_at]; exact h
  · rw [upd_ne _ _ e]; omega
/-- a master promises -/
theorem inv.raise {s : Nat → LS} {P B X : Nat → Int} {ch : Int} {V : Int → Int} {A : Nat → Int → Prop} {r : Int} (h : inv s P B X ch V A r) {k : Nat} {b : Int} (hb : P k ≤ b) (hr : b ≤ r) (h0 : 0 ≤ b) : inv s (upd P k b) B X ch V A r := by
  have hP := upd_ge hb
  refine ⟨h.id, h.bal, h.b7, fun j hj => ?_, fun j hj => ?_, h.acc, h.val, h.fresh, fun c c0 q1 q2 q3 => (h.safe c c0 q1 q2 q3).imp _root_.id (fun q => q.grow hP (fun _ _ q => q)), fun i hi => (h.lead i hi).grow hP (fun _ _ _ q => q) (fun _ _ q => q), h.chosen⟩
  · by_cases e : j = k
    · subst e; rw [upd_at]; omega
    · rw [upd_ne _ _ e]; exact h.prom j hj
  · have := h.vote j hj
    exact ⟨this.1, Int.le_trans this.2.1 (hP j), this.2.2⟩
/-- a leader proposes -/
theorem inv.propose {s : Nat → LS} {P B X : Nat → Int} {ch : Int} {V : Int → Int} {A : Nat → Int → Prop} {r : Int} (h : inv s P B X ch V A r) {i : Nat} (hi : i < 3) (hr : readyOk V A P (s i)) {x : Int} (hx : 10 ≤ x ∧ x ≤ 12)
    (hd : ∀ d, findV (s i).bound 1 = some d → d.c = one x) :
    inv (upd s i { s i with pend := true, prop := one x }) P B X ch (fun b => if b = (s i).bal then x else V b) A r := by
  have hV : ∀ b, b ≠ (s i).bal → (fun b => if b = (s i).bal then x else V b) b = V b := fun b hb => if_neg hb
  have hVb : (fun b => if b = (s i).bal then x else V b) (s i).bal = x := if_pos rfl
  generalize hV' : (fun b => if b = (s i).bal then x else V b) = V' at *
  have hne : ∀ b, V b ≠ 0 → b ≠ (s i).bal := fun b hb e => hb (e ▸ hr.none)
  have hbl := h.bal i hi
  have hleads : ∀ j, j < 3 → j ≠ i → leadOk V' A P (s j) := fun j hj e => by
    have hbj := h.bal j hj
    have hnb : (s j).bal = 0 ∨ (s j).bal ≠ (s i).bal := by
      rcases hbj.2.2 with q | q
      · exact .inl q
      · refine .inr (fun q2 => ?_)
        rcases hbl.2.2 with q3 | q3
        · have := hr.pos; omega
        · rw [q2, q3] at q; omega
    rcases h.lead j hj with q | q | q | q
    · exact .inl q
    · have hnb2 : (s j).bal ≠ (s i).bal := by have := q.pos; omega
      refine .inr (.inl ⟨q.ph, q.frm, q.pend, q.acc, by rw [hV _ hnb2]; exact q.none, q.pos, fun b0 q1 q2 => ?_, q.well⟩)
      rcases q.below b0 q1 q2 with q3 | ⟨q3, q4⟩
      · exact .inl q3
      · rw [hV _ (hne _ q3)]; exact .inr ⟨q3, q4⟩
    · have hnb2 := hne _ q.val
      exact .inr (.inr (.inl ⟨q.ph, q.pend, by rw [hV _ hnb2]; exact q.val, by rw [hV _ hnb2]; exact q.prop, q.bits⟩))
    · exact .inr (.inr (.inr q))
  refine ⟨fun j hj => ?_, fun j hj => ?_, fun j hj => ?_, h.prom, fun k hk => ?_, fun k b hb => ?_, fun b hb => ?_, fun b hb => ?_, fun b b0 q1 q2 q3 => ?_, fun j hj => ?_, fun hc => ?_⟩
  · by_cases e : j = i
    · subst e; rw [upd_at]; exact h.id j hj
    · rw [upd_ne _ _ e]; exact h.id j hj
  · by_cases e : j = i
    · subst e; rw [upd_at]; exact h.bal j hj
    · rw [upd_ne _ _ e]; exact h.bal j hj
  · by_cases e : j = i
    · subst e; rw [upd_at]; exact h.b7 j hj
    · rw [upd_ne _ _ e]; exact h.b7 j hj
  · have := h.vote k hk
    refine ⟨this.1, this.2.1, fun q => ?_⟩
    obtain ⟨q1, q2⟩ := this.2.2 q
    rw [hV _ (hne _ (h.acc k _ q1).2.2.2)]
    exact ⟨q1, q2⟩
  · have := h.acc k b hb
    exact ⟨this.1, this.2.1, this.2.2.1, by rw [hV _ (hne _ this.2.2.2)]; exact this.2.2.2⟩
  · by_cases e : b = (s i).bal
    · rw [e, hVb]; exact hx
    · rw [hV _ e] at hb ⊢; exact h.val b hb
  · have hback : ∀ j, (upd s i { s i with pend := true, prop := one x } j).bal = (s j).bal := fun j => by
      by_cases e : j = i
      · subst e; rw [upd_at]
      · rw [upd_ne _ _ e]
    by_cases e : b = (s i).bal
    · rw [e]
      refine ⟨hr.pos, i, hi, ?_, by rw [hback]; omega⟩
      rcases hbl.2.2 with q | q
      · have := hr.pos; omega
      · exact q
    · rw [hV _ e] at hb
      obtain ⟨q, j, hj, q1, q2⟩ := h.fresh b hb
      exact ⟨q, j, hj, q1, by rw [hback]; exact q2⟩
  · by_cases e : b = (s i).bal
    · rw [e] at q3 ⊢
      rw [hVb]
      rcases hr.below b0 q2 q3 with q | ⟨q, d, q4, q5⟩
      · exact .inr q
      · refine .inl ?_
        rw [hV _ (hne _ q)]
        have := hd d q4
        rw [q5] at this
        unfold one at this
        injection this with _ _ this
        injection this
    · rw [hV _ e] at q1 ⊢
      by_cases e0 : b0 = (s i).bal
      · rcases h.safe b b0 q1 q2 q3 with q | q
        · rw [e0, hr.none] at q; exact absurd q.symm q1
        · exact .inr q
      · rw [hV _ e0]; exact h.safe b b0 q1 q2 q3
  · by_cases e : j = i
    · subst e
      rw [upd_at]
      have hb0 : ∀ k, k < 3 → bitB 0 k = true → A k (s j).bal := fun k hk q => by
        match k, hk with
        | 0, _ => cases q
        | 1, _ => cases q
        | 2, _ => cases q
      refine .inr (.inr (.inl ⟨hr.ph, rfl, ?_, ?_, ?_⟩))
      · show V' (s j).bal ≠ 0
        rw [hVb]; omega
      · show one x = one (V' (s j).bal)
        rw [hVb]
      · show ∀ k, k < 3 → bitB (s j).acc k = true → A k (s j).bal
        rw [hr.acc]; exact hb0
    · rw [upd_ne _ _ e]; exact hleads j hj e
  · obtain ⟨b, k, l, q1, q2, q3, q4⟩ := h.chosen hc
    exact ⟨b, k, l, q1, q2, q3, by rw [hV _ (hne _ (h.acc k b q2).2.2.2)]; exact q4⟩
/-- a master accepts -/
theorem inv.accept {s : Nat → LS} {P B X : Nat → Int} {ch : Int} {V : Int → Int} {A : Nat → Int → Prop} {r : Int} (h : inv s P B X ch V A r) {i k : Nat} (hi : i < 3) (hk : k < 3) (hp : pendOk V A (s i)) (hb : P k ≤ (s i).bal) :
    inv s (upd P k (s i).bal) (upd B k (s i).bal) (upd X k (V (s i).bal)) ch V (fun j c => A j c ∨ (j = k ∧ c = (s i).bal)) r := by
  have hP := upd_ge hb
  have hbl := h.bal i hi
  obtain ⟨hpos, _⟩ := h.fresh _ hp.val
  have hA : ∀ b0 j, b0 < P j → ¬ A j b0 → ¬ (A j b0 ∨ (j = k ∧ b0 = (s i).bal)) := fun b0 j q1 q2 q3 => by
    rcases q3 with q3 | ⟨rfl, rfl⟩
    · exact q2 q3
    · omega
  refine ⟨h.id, h.bal, h.b7, fun j hj => ?_, fun j hj => ?_, fun j c hc => ?_, h.val, h.fresh, fun c c0 q1 q2 q3 => (h.safe c c0 q1 q2 q3).imp _root_.id (fun q => q.grow hP (hA c0)), fun j hj => (h.lead j hj).grow hP hA (fun _ _ q => .inl q), fun hc => ?_⟩
  · by_cases e : j = k
    · subst e; rw [upd_at]; omega
    · rw [upd_ne _ _ e]; exact h.prom j hj
  · by_cases e : j = k
    · subst e; rw [upd_at, upd_at, upd_at]; exact ⟨by omega, by omega, fun _ => ⟨.inr ⟨rfl, rfl⟩, rfl⟩⟩
    · rw [upd_ne _ _ e, upd_ne _ _ e, upd_ne _ _ e]
      have := h.vote j hj
      exact ⟨this.1, this.2.1, fun q => ⟨.inl (this.2.2 q).1, (this.2.2 q).2⟩⟩
  · rcases hc with hc | ⟨rfl, rfl⟩
    · have q := h.acc j c hc
      refine ⟨q.1, q.2.1, ?_, q.2.2.2⟩
      by_cases e : j = k
      · subst e; rw [upd_at]; have := h.vote j hk; omega
      · rw [upd_ne _ _ e]; exact q.2.2.1
    · exact ⟨hk, hpos, by rw [upd_at]; omega, hp.val⟩
  · obtain ⟨b, k', l, q1, q2, q3, q4⟩ := h.chosen hc
    exact ⟨b, k', l, q1, .inl q2, .inl q3, q4⟩
theorem blocked.two {A : Nat → Int → Prop} {P : Nat → Int} {b : Int} (h : blocked A P b) {k l : Nat} (hk : k < 3) (hl : l < 3) (hkl : k ≠ l) (ak : A k b) (al : A l b) : False := by
  obtain ⟨m, n, h1, h2, h3, h4, _, h5, _⟩ := h
  have e1 : k ≠ m := fun e => h4 (e ▸ ak)
  have e2 : k ≠ n := fun e => h5 (e ▸ ak)
  have e3 : l ≠ m := fun e => h4 (e ▸ al)
  have e4 : l ≠ n := fun e => h5 (e ▸ al)
  omega
theorem inv.agree {s : Nat → LS} {P B X : Nat → Int} {ch : Int} {V : Int → Int} {A : Nat → Int → Prop} {r : Int} (h : inv s P B X ch V A r) {b c : Int} {k l k' l' : Nat} (n1 : k ≠ l) (a1 : A k b) (a2 : A l b) (n2 : k' ≠ l') (a3 : A k' c) (a4 : A l' c) : V b = V c := by
  have q1 := h.acc _ _ a1
  have q2 := h.acc _ _ a2
  have q3 := h.acc _ _ a3
  have q4 := h.acc _ _ a4
  rcases Int.lt_trichotomy b c with e | e | e
  · rcases h.safe c b q3.2.2.2 q1.2.1 e with q | q
    · exact q
    · exact (q.two q1.1 q2.1 n1 a1 a2).elim
  · rw [e]
  · rcases h.safe b c q1.2.2.2 q3.2.1 e with q | q
    · exact q.symm
    · exact (q.two q3.1 q4.1 n2 a3 a4).elim
theorem bit_or : ∀ m : Nat, m ≤ 7 → ∀ n : Nat, n < 3 → ∀ k : Nat, k < 3 → bitB (orB m n) k = true → k = n ∨ bitB m k = true := by decide
theorem bits_two : ∀ m : Nat, m ≤ 7 → ¬ countOf m < 2 → ∃ k, k < 3 ∧ ∃ l, l < 3 ∧ k ≠ l ∧ bitB m k = true ∧ bitB m l = true := by decide
/-- a leader hears that it was accepted -/
theorem inv.yes {s : Nat → LS} {P B X : Nat → Int} {ch : Int} {V : Int → Int} {A : Nat → Int → Prop} {r : Int} (h : inv s P B X ch V A r) {i k : Nat} (hi : i < 3) (hk : k < 3) (hp : pendOk V A (s i)) (ha : A k (s i).bal) :
    inv (upd s i ((s i).yes k).2) P B X (if ((s i).yes k).1 = true then V (s i).bal else ch) V A r ∧ (((s i).yes k).1 = true → ch = 0 ∨ ch = V (s i).bal) := by
  have hb7 := h.b7 i hi
  have hbl := h.bal i hi
  have hbit : ∀ j, j < 3 → bitB (orB (s i).acc k) j = true → A j (s i).bal := fun j hj q => by
    rcases bit_or _ hb7.2 k hk j hj q with rfl | q
    · exact ha
    · exact hp.bits j hj q
  by_cases hc : countOf (orB (s i).acc k) < 2
  · have hy : (s i).yes k = (false, { s i with acc := orB (s i).acc k }) := by unfold LS.yes; rw [if_pos hc]
    rw [hy]
    exact ⟨h.setLead hi (h.id i hi) (Int.le_refl _) hbl.2.1 hbl.2.2 hb7.1 (orB_le _ hb7.2 _ hk) (.inr (.inr (.inl ⟨hp.ph, hp.pend, hp.val, hp.prop, hbit⟩))), by simp⟩
  · have hy : (s i).yes k = (true, { (s i).withdraw with frm := wrap64 ((s i).prop.num + 1) }) := by unfold LS.yes; rw [if_neg hc]
    rw [hy]
    obtain ⟨m, hm, n, hn, hmn, q1, q2⟩ := bits_two _ (orB_le _ hb7.2 _ hk) hc
    have am := hbit m hm q1
    have an := hbit n hn q2
    have h2 := h.setLead hi (s' := { (s i).withdraw with frm := wrap64 ((s i).prop.num + 1) }) (h.id i hi) (Int.le_refl _) hbl.2.1 hbl.2.2 hb7.1 (by simp [LS.withdraw]) (.inr (.inr (.inr ⟨hp.ph, rfl, by rw [hp.prop]; show wrap64 ((1 : Int) + 1) = 2; unfold wrap64; omega⟩)))
    refine ⟨⟨h2.id, h2.bal, h2.b7, h2.prom, h2.vote, h2.acc, h2.val, h2.fresh, h2.safe, h2.lead, fun _ => ⟨_, m, n, hmn, am, an, rfl⟩⟩, fun _ => ?_⟩
    by_cases e : ch = 0
    · exact .inl e
    · obtain ⟨b, k', l', q3, q4, q5, q6⟩ := h.chosen e
      exact .inr (q6 ▸ h.agree q3 q4 q5 hmn am an)
/-- what a master tells of its vote -/
def told (b x : Int) : List VS := if b = 0 then [] else [⟨b, one x⟩]
def pickV (b1 x1 b2 x2 : Int) : Option VS := if b1 = 0 then (if b2 = 0 then none else some ⟨b2, one x2⟩) else if b2 ≤ b1 then some ⟨b1, one x1⟩ else some ⟨b2, one x2⟩
theorem binds_told1 (id b b1 x1 : Int) (m : Nat) (h0 : 0 ≤ b1) (h1 : b1 < b) : LS.binds ⟨id, 1, b, 1, m, [], false, CS.zero, 0⟩ (told b1 x1) = ⟨id, 1, b, 1, m, (told b1 x1).map (fun v => (1, v)), false, CS.zero, 0⟩ := by
  unfold told
  by_cases e : b1 = 0
  · rw [if_pos e]; rfl
  · rw [if_neg e]
    show LS.bind _ _ = _
    unfold LS.bind one
    simp only
    rw [if_neg (by omega)]
    rfl
theorem binds_told2 (id b b1 x1 b2 x2 : Int) (m : Nat) (h0 : 0 ≤ b1) (h1 : b1 < b) (h2 : 0 ≤ b2) (h3 : b2 < b) :
    ∃ bd, LS.binds ⟨id, 1, b, 1, m, (told b1 x1).map (fun v => (1, v)), false, CS.zero, 0⟩ (told b2 x2) = ⟨id, 1, b, 1, m, bd, false, CS.zero, 0⟩ ∧ findV bd 1 = pickV b1 x1 b2 x2 := by
  unfold told pickV
  by_cases e : b2 = 0
  · rw [if_pos e]
    refine ⟨_, rfl, ?_⟩
    by_cases e1 : b1 = 0
    · rw [if_pos e1, if_pos e1, if_pos e]; rfl
    · rw [if_neg e1, if_neg e1, if_pos (by omega)]; rfl
  · rw [if_neg e]
    by_cases e1 : b1 = 0
    · rw [if_pos e1, if_pos e1, if_neg e]
      refine ⟨[(1, ⟨b2, one x2⟩)], ?_, rfl⟩
      show LS.bind _ _ = _
      unfold LS.bind one
      simp only
      rw [if_neg (by omega)]
      rfl
    · rw [if_neg e1, if_neg e1]
      by_cases e2 : b2 ≤ b1
      · rw [if_pos e2]
        refine ⟨[(1, ⟨b1, one x1⟩)], ?_, rfl⟩
        show LS.bind _ _ = _
        unfold LS.bind one
        simp only
        rw [if_neg (by omega)]
        show (if b2 ≤ b1 then _ else _) = _
        rw [if_pos e2]
        rfl
      · rw [if_neg e2]
        refine ⟨[(1, ⟨b2, one x2⟩)], ?_, rfl⟩
        show LS.bind _ _ = _
        unfold LS.bind one
        simp only
        rw [if_neg (by omega)]
        show (if b2 ≤ b1 then _ else _) = _
        rw [if_neg e2]
        rfl
theorem count_one : ∀ k : Nat, k < 3 → ¬ 2 ≤ countOf (orB 0 k) := by decide
theorem count_two : ∀ k : Nat, k < 3 → ∀ l : Nat, l < 3 → k ≠ l → 2 ≤ countOf (orB (orB 0 k) l) := by decide
theorem promise_told1 (id b b1 x1 : Int) (k : Nat) (hk : k < 3) (h0 : 0 ≤ b1) (h1 : b1 < b) :
    LS.promise ⟨id, 1, b, 1, 0, [], false, CS.zero, 0⟩ k b (told b1 x1) = (false, 0, ⟨id, 1, b, 1, orB 0 k, (told b1 x1).map (fun v => (1, v)), false, CS.zero, 0⟩) := by
  unfold LS.promise
  rw [if_neg (by simp)]
  show (if 2 ≤ countOf (LS.binds ⟨id, 1, b, 1, orB 0 k, [], false, CS.zero, 0⟩ (told b1 x1)).prom then _ else _) = _
  rw [binds_told1 _ _ _ _ _ h0 h1, if_neg (count_one k hk)]
theorem promise_told2 (id b b1 x1 b2 x2 : Int) (k l : Nat) (hk : k < 3) (hl : l < 3) (hkl : k ≠ l) (h0 : 0 ≤ b1) (h1 : b1 < b) (h2 : 0 ≤ b2) (h3 : b2 < b) :
    ∃ bd, LS.promise ⟨id, 1, b, 1, orB 0 k, (told b1 x1).map (fun v => (1, v)), false, CS.zero, 0⟩ l b (told b2 x2) = (true, 0, ⟨id, 2, b, 1, orB (orB 0 k) l, bd, false, CS.zero, 0⟩) ∧ findV bd 1 = pickV b1 x1 b2 x2 := by
  obtain ⟨bd, hb, hf⟩ := binds_told2 id b b1 x1 b2 x2 (orB (orB 0 k) l) h0 h1 h2 h3
  refine ⟨bd, ?_, hf⟩
  unfold LS.promise
  rw [if_neg (by simp)]
  show (if 2 ≤ countOf (LS.binds ⟨id, 1, b, 1, orB (orB 0 k) l, (told b1 x1).map (fun v => (1, v)), false, CS.zero, 0⟩ (told b2 x2)).prom then _ else _) = _
  rw [hb, if_pos (count_two k hk l hl hkl)]
/-- whoever was promised by two is bound to what was chosen, or could be -/
theorem inv.ready {s : Nat → LS} {P B X : Nat → Int} {ch : Int} {V : Int → Int} {A : Nat → Int → Prop} {r : Int} (h : inv s P B X ch V A r) {k l : Nat} (hk : k < 3) (hl : l < 3) (hkl : k ≠ l) {b : Int} (hpk : b ≤ P k) (hpl : b ≤ P l) (hbk : B k < b) (hbl : B l < b)
    (hV : V b = 0) (h0 : 0 < b) {s' : LS} {id : Int} {m : Nat} {bd : List (Int × VS)} (hs : s' = ⟨id, 2, b, 1, m, bd, false, CS.zero, 0⟩) (hbd : findV bd 1 = pickV (B k) (X k) (B l) (X l)) : readyOk V A P s' := by
  subst hs
  have vk := h.vote k hk
  have vl := h.vote l hl
  have hpick : ∀ d, pickV (B k) (X k) (B l) (X l) = some d → ∃ β, β ≠ 0 ∧ B k ≤ β ∧ B l ≤ β ∧ d.c = one (V β) ∧ V β ≠ 0 := fun d hd => by
    unfold pickV at hd
    by_cases e : B k = 0
    · rw [if_pos e] at hd
      by_cases e2 : B l = 0
      · rw [if_pos e2] at hd; cases hd
      · rw [if_neg e2] at hd
        obtain ⟨q1, q2⟩ := vl.2.2 e2
        injection hd with hd
        exact ⟨B l, e2, by omega, Int.le_refl _, by rw [← hd, q2], (h.acc _ _ q1).2.2.2⟩
    · rw [if_neg e] at hd
      by_cases e2 : B l ≤ B k
      · rw [if_pos e2] at hd
        obtain ⟨q1, q2⟩ := vk.2.2 e
        injection hd with hd
        exact ⟨B k, e, Int.le_refl _, e2, by rw [← hd, q2], (h.acc _ _ q1).2.2.2⟩
      · rw [if_neg e2] at hd
        obtain ⟨q1, q2⟩ := vl.2.2 (by omega)
        injection hd with hd
        exact ⟨B l, by omega, by omega, Int.le_refl _, by rw [← hd, q2], (h.acc _ _ q1).2.2.2⟩
  have hsome : ¬ (B k = 0 ∧ B l = 0) → ∃ d, pickV (B k) (X k) (B l) (X l) = some d := fun e => by
    unfold pickV
    by_cases e1 : B k = 0
    · rw [if_pos e1, if_neg (fun e2 => e ⟨e1, e2⟩)]; exact ⟨_, rfl⟩
    · rw [if_neg e1]
      split
      · exact ⟨_, rfl⟩
      · exact ⟨_, rfl⟩
  refine ⟨rfl, rfl, rfl, rfl, hV, h0, fun b0 q1 q2 => ?_, fun d hd => ?_⟩
  · by_cases ha : A k b0 ∨ A l b0
    · have hge : b0 ≤ B k ∨ b0 ≤ B l := ha.imp (fun q => (h.acc _ _ q).2.2.1) (fun q => (h.acc _ _ q).2.2.1)
      obtain ⟨d, hd⟩ := hsome (by omega)
      obtain ⟨β, p1, p2, p3, p4, p5⟩ := hpick d hd
      have hv0 : V b0 ≠ 0 := ha.elim (fun q => (h.acc _ _ q).2.2.2) (fun q => (h.acc _ _ q).2.2.2)
      by_cases e : b0 = β
      · exact .inr ⟨hv0, d, hbd.trans hd, by rw [e]; exact p4⟩
      · rcases h.safe β b0 p5 q1 (by omega) with q | q
        · exact .inr ⟨hv0, d, hbd.trans hd, by rw [q]; exact p4⟩
        · exact .inl q
    · refine .inl ⟨k, l, hk, hl, hkl, fun q => ha (.inl q), ?_, fun q => ha (.inr q), ?_⟩
      · have : b0 < b := q2
        omega
      · have : b0 < b := q2
        omega
  · obtain ⟨β, p1, p2, p3, p4, p5⟩ := hpick d (hbd.symm.trans hd)
    exact ⟨V β, (h.val β p5).1, (h.val β p5).2, p4⟩
/-- what was chosen is what it is bound to -/
theorem inv.bound {s : Nat → LS} {P B X : Nat → Int} {ch : Int} {V : Int → Int} {A : Nat → Int → Prop} {r : Int} (h : inv s P B X ch V A r) {k l : Nat} (hk : k < 3) (hl : l < 3) (hkl : k ≠ l) {s' : LS} (hr : readyOk V A P s') (hbk : B k < s'.bal) (hbl : B l < s'.bal) (hc : ch ≠ 0) :
    s'.boundOf 1 = (one ch, true) := by
  obtain ⟨b, m, n, hmn, am, an, hv⟩ := h.chosen hc
  have qm := h.acc _ _ am
  have qn := h.acc _ _ an
  have hlt : b < s'.bal := by
    have : m = k ∨ m = l ∨ n = k ∨ n = l := by omega
    rcases this with rfl | rfl | rfl | rfl <;> omega
  rcases hr.below b qm.2.1 hlt with q | ⟨_, d, q1, q2⟩
  · exact (q.two qm.1 qn.1 hmn am an).elim
  · unfold LS.boundOf
    rw [q1, ← hv]
    simp [q2]
end Go.Proofs.Ytbjonlfjfjlelaa
