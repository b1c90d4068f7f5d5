/-
  LeadNames: both ends; leaders that are none.
-/
import Derived.Test.YtbjonlfjfjlelaaLeadNone
namespace Go.Proofs.Ytbjonlfjfjlelaa
open Go.RowKit
set_option linter.unusedVariables false
set_option maxRecDepth 100000

theorem lOn.prop {w0 w w' : World} {p : Nat} {F : List Nat} {s s' : LS} {c : CS} {er : Int} {e : Ending} (h : lOn w0 w p F s) (hp : propPost p F s' c er w e w') :
    ∃ A n F', e = .returned (.tuple #[.agg #[.int .i64 c.num, .int .i64 c.full, .slice A c.chain.length n], .int .i64 er]) ∧ lOn w0 w' p F' s' := by
  obtain ⟨cv, F', G, he, a, b, c', d, _⟩ := hp
  obtain ⟨A, n, g, rfl, _⟩ := d
  obtain ⟨F2, h2⟩ := h.step ⟨F', a, b, c'⟩
  exact ⟨A, n, F2, he, h2⟩
/-- a config of one replica, to be handed in -/
theorem confPost.arg {c : CS} {w w' : World} {e : Ending} (h : confPost c w e w') : ∃ A n G, e = .returned (.agg #[.int .i64 c.num, .int .i64 c.full, .slice A c.chain.length n]) ∧ held w' G (.slice A c.chain.length n) c.chain ∧ (∀ y ∈ G, w.heap.size ≤ y ∧ y < w'.heap.size) ∧ keepBut [] w w' := by
  obtain ⟨cv, he, G, hh, hG, hk⟩ := h
  obtain ⟨A, n, g, rfl, h2⟩ := id hh
  exact ⟨A, n, G, he, hh, hG, hk⟩
def namesLRel (w : World) (v38 v39 : Value) (wr : World) : Prop := ∃ (k : Nat) (v : Option Addr), k ≤ 2 ∧ v39 = .int .i64 (k : Int) ∧ v38 = .pointer v ∧ nilL wr v ∧ keepBut [] w wr

set_option maxHeartbeats 16000000 in
theorem leadNames_walk (w : World) : Calls Try.prog 10 #[] w (yesPost w) := by
  go_enter Try.func10, Try.ntmps10
  go_wp2_with fail
  refine (newL_no (-1) _ (by omega)).mono ?_; rintro e w1 ⟨rfl, rfl⟩
  go_wp2_with fail
  refine (newL_no 3 _ (by omega)).mono ?_; rintro e w1 ⟨rfl, rfl⟩
  go_wp2_with fail
  refine (newL_any 2 _ (by omega) (by omega)).mono ?_; intro e w1 hq; obtain ⟨p, F1, rfl, h1⟩ := lOn.start (keepBut.refl [] w) hq; clear hq
  go_wp2_with fail
  refine (start_no p F1 _ (-1) (1) _ h1.1 (by omega)).mono ?_; rintro e w2 ⟨rfl, rfl⟩
  go_wp2_with fail
  refine (start_no p F1 _ (9007199254740989) (1) _ h1.1 (by omega)).mono ?_; rintro e w2 ⟨rfl, rfl⟩
  go_wp2_with fail
  refine (start_no p F1 _ (0) (0) _ h1.1 (by omega)).mono ?_; rintro e w2 ⟨rfl, rfl⟩
  go_wp2_with fail
  refine (start_no p F1 _ (0) (9007199254740992) _ h1.1 (by omega)).mono ?_; rintro e w2 ⟨rfl, rfl⟩
  go_wp2_with fail
  refine (phaseL_any p F1 _ _ h1.1).mono ?_; rintro e w2 ⟨rfl, rfl⟩
  rw [show (LS.new 2).ph = 0 from rfl]
  go_wp2_with fail
  refine (ballotL_any p F1 _ _ h1.1).mono ?_; rintro e w2 ⟨rfl, rfl⟩
  rw [show (LS.new 2).bal = 0 from rfl]
  go_wp2_with fail
  refine (noL_any p F1 _ 5 _ h1.1).mono ?_; intro e w2 hq; obtain ⟨rfl, h2⟩ := h1.w hq; clear hq h1
  rw [show (LS.new 2).no 5 = (170, LS.new 2) from rfl] at h2 ⊢
  go_wp2_with fail
  refine (start_yes p F1 _ 9007199254740988 9007199254740991 _ h2.1 ⟨by simp [LS.new], by simp [LS.new], by simp [LS.new], by simp [LS.new], by simp [LS.new], by simp [LS.new]⟩ (by omega) (by omega) (by omega) (by omega)).mono ?_; rintro e w3 ⟨rfl, hl⟩; obtain ⟨F3, h3⟩ := h2.step hl; clear hl h2
  rw [show (LS.new 2).start 9007199254740988 9007199254740991 = (9007199254740989, 0, ⟨2, 1, 9007199254740989, 9007199254740991, 0, [], false, CS.zero, 0⟩) from rfl] at h3 ⊢
  go_wp2_with fail
  refine (promise_no p F3 _ 3 9007199254740989 (.slice none 0 0) _ h3.1 (by omega) none 0 0 rfl).mono ?_; rintro e w4 ⟨rfl, rfl⟩
  go_wp2_with fail
  refine (promise_state p F3 _ 0 9007199254740988 (.slice none 0 0) _ h3.1 (by omega) (by omega) none 0 0 rfl (.inr (by simp))).mono ?_; rintro e w4 ⟨rfl, rfl⟩
  go_wp2_with fail
  refine (conf_any 1 10 _).mono ?_; intro e w4 hq; obtain ⟨A4, n4, G4, rfl, hh4, hG4, hk4⟩ := hq.arg; clear hq
  have h4 := h3.over hk4
  clear h3 hk4 hh4 hG4
  go_wp2_with fail
  refine (propose_no p F3 _ ⟨1, 1, [10]⟩ A4 _ n4 _ h4.1 170 (.inl ⟨.inl (by simp), rfl⟩)).mono ?_; intro e w5 hq; obtain ⟨A5, n5, F5, rfl, h5⟩ := h4.prop hq; clear hq h4
  have h5a := h5.over ((keepBut.refl [] w5).alloc (.cells #[.int .i64 0, .int .i64 0, .slice A5 0 n5] 55))
  clear h5
  go_wp2_with fail
  refine (yes_state p F5 _ 0 9007199254740989 1 _ h5a.1 (by omega) (by omega) (.inl (by simp))).mono ?_; rintro e w6 ⟨rfl, rfl⟩
  go_wp2_with fail
  refine (promise_yes p F5 [] _ 0 (.slice none 0 0) [] _ h5a.1 ⟨by simp, by simp, by simp, by simp, by simp, by simp⟩ (by omega) rfl (votesV.nil _ _) (by simp)).mono ?_; rintro e w7 ⟨rfl, hl⟩; obtain ⟨F7, h7⟩ := h5a.step hl; clear hl h5a
  rw [show LS.promise ⟨2, 1, 9007199254740989, 9007199254740991, 0, [], false, CS.zero, 0⟩ 0 9007199254740989 [] = (false, 0, ⟨2, 1, 9007199254740989, 9007199254740991, 1, [], false, CS.zero, 0⟩) from rfl] at h7 ⊢
  go_wp2_with fail
  refine (promise_yes p F7 [] _ 1 (.slice none 0 0) [] _ h7.1 ⟨by simp, by simp, by simp, by simp, by simp, by simp⟩ (by omega) rfl (votesV.nil _ _) (by simp)).mono ?_; rintro e w8 ⟨rfl, hl⟩; obtain ⟨F8, h8⟩ := h7.step hl; clear hl h7
  rw [show LS.promise ⟨2, 1, 9007199254740989, 9007199254740991, 1, [], false, CS.zero, 0⟩ 1 9007199254740989 [] = (true, 0, ⟨2, 2, 9007199254740989, 9007199254740991, 3, [], false, CS.zero, 0⟩) from rfl] at h8 ⊢
  go_wp2_with fail
  refine (conf_any 1 10 _).mono ?_; intro e w9 hq; obtain ⟨A9, n9, G9, rfl, hh9, hG9, hk9⟩ := hq.arg; clear hq
  have h9 := h8.over hk9
  clear h8 hk9 hh9 hG9
  go_wp2_with fail
  refine (propose_no p F8 _ ⟨1, 1, [10]⟩ A9 _ n9 _ h9.1 2 (.inr ⟨rfl, rfl, by simp, rfl⟩)).mono ?_; intro e w10 hq; obtain ⟨A10, n10, F10, rfl, h10⟩ := h9.prop hq; clear hq h9
  have h10a := h10.over ((keepBut.refl [] w10).alloc (.cells #[.int .i64 0, .int .i64 0, .slice A10 0 n10] 55))
  clear h10
  go_wp2_with fail
  refine (conf_any 9007199254740991 10 _).mono ?_; intro e w11 hq; obtain ⟨A11, n11, G11, rfl, hh11, hG11, hk11⟩ := hq.arg; clear hq
  have h11 := h10a.over hk11
  have hlt10 := h10a.1.lt
  go_wp2_with fail
  refine (propose_yes p F10 G11 _ ⟨9007199254740991, 1, [10]⟩ (.slice A11 1 n11) _ h11.1 hh11 (fun y hy => ⟨fun hm => absurd (hlt10 _ hm) (Nat.not_lt.mpr (hG11 y hy).1), (hG11 y hy).2⟩) rfl rfl (by simp)).mono ?_; intro e w12 hq; obtain ⟨A12, n12, F12, rfl, h12⟩ := h11.prop hq; clear hq h11 h10a hk11 hh11 hG11 hlt10
  rw [show LS.propose ⟨2, 2, 9007199254740989, 9007199254740991, 3, [], false, CS.zero, 0⟩ ⟨9007199254740991, 1, [10]⟩ = (0, ⟨9007199254740991, 1, [10]⟩, ⟨2, 2, 9007199254740989, 9007199254740991, 3, [], true, ⟨9007199254740991, 1, [10]⟩, 0⟩) from rfl] at h12 ⊢
  have h12a := h12.over ((keepBut.refl [] w12).alloc (.cells #[.int .i64 9007199254740991, .int .i64 1, .slice A12 1 n12] 55))
  clear h12
  go_wp2_with fail
  refine (conf_any 9007199254740991 10 _).mono ?_; intro e w13 hq; obtain ⟨A13, n13, G13, rfl, hh13, hG13, hk13⟩ := hq.arg; clear hq
  have h13 := h12a.over hk13
  clear h12a hk13 hh13 hG13
  go_wp2_with fail
  refine (propose_no p F12 _ ⟨9007199254740991, 1, [10]⟩ A13 _ n13 _ h13.1 170 (.inl ⟨.inr rfl, rfl⟩)).mono ?_; intro e w14 hq; obtain ⟨A14, n14, F14, rfl, h14⟩ := h13.prop hq; clear hq h13
  have h14a := h14.over ((keepBut.refl [] w14).alloc (.cells #[.int .i64 0, .int .i64 0, .slice A14 0 n14] 55))
  clear h14
  go_wp2_with fail
  refine (yes_no p F14 _ (-1) 9007199254740989 9007199254740991 _ h14a.1 (by omega)).mono ?_; rintro e w15 ⟨rfl, rfl⟩
  go_wp2_with fail
  refine (yes_state p F14 _ 0 9007199254740989 1 _ h14a.1 (by omega) (by omega) (.inr (.inr (.inr (by simp))))).mono ?_; rintro e w15 ⟨rfl, rfl⟩
  go_wp2_with fail
  refine (promise_state p F14 _ 2 9007199254740989 (.slice none 0 0) _ h14a.1 (by omega) (by omega) none 0 0 rfl (.inl (by simp))).mono ?_; rintro e w15 ⟨rfl, rfl⟩
  have HK0 := Lib.hid h14a.2.2
  clear h14a
  go_upto_region 26 with fail
  go_loopw [38, 39] (fun v38 v39 wx => namesLRel w v38 v39 wx) (fun _ v39 _ => 2 - (intOf v39).toNat)
  case atStart => exact ⟨0, none, by omega, rfl, rfl, .inl rfl, HK0.out⟩
  case round =>
    obtain ⟨k, v, hk, rfl, rfl, hn, hkb⟩ := hrel
    by_cases hlt : k < 2
    · have HN := Lib.hid (And.intro hn hkb)
      clear hn hkb
      have hlt' : (k : Int) < 2 := by omega
      go_wp2_with fail
      refine (startLN v 0 1 _ HN.out.1).mono ?_; rintro e w1' ⟨rfl, rfl⟩
      go_wp2_with fail
      refine (promiseLN v 0 1 _ HN.out.1).mono ?_; rintro e w1' ⟨rfl, rfl⟩
      go_wp2_with fail
      refine (conf_any 1 10 _).mono ?_; intro e wa hq; obtain ⟨Aa, na, Ga, rfl, _, _, hka⟩ := hq.arg; clear hq
      have hna := HN.out.1.over hka
      have HNa := Lib.hid (And.intro hna (HN.out.2.then hka (by simp)))
      clear HN hna hka
      go_wp2_with fail
      refine (proposeLN v 1 1 Aa _ na _ HNa.out.1).mono ?_; rintro e wb ⟨rfl, hkb⟩
      have hk2 := hkb.alloc (.cells #[.int .i64 0, .int .i64 0, .slice none 0 0] 55)
      have HNb := Lib.hid (And.intro (HNa.out.1.over hk2) (HNa.out.2.then hk2 (by simp)))
      clear HNa hkb hk2
      go_wp2_with fail
      refine (yesLN v 0 1 1 _ HNb.out.1).mono ?_; rintro e w1' ⟨rfl, rfl⟩
      go_wp2_with fail
      refine (boundLN v 1 _ HNb.out.1).mono ?_; rintro e wc ⟨rfl, hkc⟩
      have hk3 := hkc.alloc (.cells #[.int .i64 0, .int .i64 0, .slice none 0 0] 55)
      have HNc := Lib.hid (And.intro (HNb.out.1.over hk3) (HNb.out.2.then hk3 (by simp)))
      clear HNb hkc hk3
      go_wp2_with fail
      refine (pendingLN v _ HNc.out.1).mono ?_; rintro e wd ⟨rfl, hkd⟩
      have hk4 := hkd.alloc (.cells #[.int .i64 0, .int .i64 0, .slice none 0 0] 55)
      have HNd := Lib.hid (And.intro (HNc.out.1.over hk4) (HNc.out.2.then hk4 (by simp)))
      clear HNc hkd hk4
      go_wp2_with fail
      refine (noLN v 9 _ HNd.out.1).mono ?_; rintro e w1' ⟨rfl, rfl⟩
      go_wp2_with fail
      refine (ballotLN v _ HNd.out.1).mono ?_; rintro e w1' ⟨rfl, rfl⟩
      go_wp2_with fail
      refine (fromLN v _ HNd.out.1).mono ?_; rintro e w1' ⟨rfl, rfl⟩
      go_wp2_with fail
      refine (phaseLN v _ HNd.out.1).mono ?_; rintro e w1' ⟨rfl, rfl⟩
      go_wp2_with fail
      refine ⟨⟨k + 1, some ⟨wd.heap.size + 1, 0, none⟩, by omega, by push_cast; rfl, rfl, .inr ⟨_, rfl, ?_⟩, HNd.out.2.alloc _⟩, ?_⟩
      · have hr := rowAt.new (wd.alloc (.cells #[.int .i64 0, .int .i64 0, .slice none 0 0] 55)) 99 #[.bool false, .int .i64 0, .int .i64 0, .int .i64 0, .int .i64 0, .int .u8 0, .map none, .bool false, .int .i64 0, .int .i64 0, .slice none 0 0, .int .u8 0]
        rw [World.size_alloc] at hr
        exact hr.cell 0
      · simp only [intOf]; omega
    · have hk2 : k = 2 := by omega
      subst hk2
      have HW := Lib.hid hkb
      clear hkb hn
      go_wp2_with fail
      refine (works_any _).mono ?_; rintro e wz ⟨rfl, hkz⟩
      have HZ := Lib.hid (HW.out.then hkz (by simp))
      clear hkz
      go_wp2_with fail
      go_ret
      exact ⟨rfl, HZ.out⟩
end Go.Proofs.Ytbjonlfjfjlelaa
