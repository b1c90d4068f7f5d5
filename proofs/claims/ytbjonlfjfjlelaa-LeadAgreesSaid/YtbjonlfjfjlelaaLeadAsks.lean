/-
  LEAD: the law's own 'asks': a master starts, and asks two of them.
-/
import Derived.Test.YtbjonlfjfjlelaaLeadCouncil
import Derived.BigQuiet
import Derived.Deep.RegionHeld3
namespace Go.Proofs.Ytbjonlfjfjlelaa
open Go.RowKit
set_option linter.unusedVariables false
set_option maxRecDepth 100000

theorem start_by (s : LS) (above : Int) (i0 : 0 ≤ s.id) (i1 : s.id < 3) (a0 : 0 ≤ above) (a1 : above ≤ 9007199254740988) :
    ∃ B, s.start above 1 = (B, 0, ⟨s.id, 1, B, 1, 0, [], false, CS.zero, 0⟩) ∧ above < B ∧ s.bal < B ∧ B ≤ max above s.bal + 3 ∧ B % 3 = s.id := by
  have h := nextB_ok (max above s.bal + 1) s.id i0 i1
  refine ⟨nextB (max above s.bal + 1) s.id, ?_, by omega, by omega, by omega, h.2.2⟩
  unfold LS.start
  rw [if_neg (by omega)]
def asksSt (i : Nat) (who whom : Nat) (b : Int) (B X : Nat → Int) (V : Int → Int) (A : Nat → Int → Prop) (s : Nat → LS) (P : Nat → Int) : Prop :=
  (i = 0 ∧ s who = ⟨(who : Int), 1, b, 1, 0, [], false, CS.zero, 0⟩) ∨
  (i = 1 ∧ s who = ⟨(who : Int), 1, b, 1, orB 0 whom, (told (B whom) (X whom)).map (fun v => (1, v)), false, CS.zero, 0⟩ ∧ b ≤ P whom ∧ B whom < b) ∨
  (i = 2 ∧ readyOk V A P (s who) ∧ (s who).bal = b ∧ B whom < b ∧ B ((whom + 1) % 3) < b)
def asksRel (w0 : World) (g : Nat) (p : Nat → Nat) (B X : Nat → Int) (ch : Int) (V : Int → Int) (A : Nat → Int → Prop) (r b : Int) (who whom : Nat) (v10 : Value) (wx : World) : Prop :=
  ∃ (i : Nat) (F : Nat → List Nat) (s : Nat → LS) (P : Nat → Int), i ≤ 2 ∧ v10 = .int .i64 (i : Int) ∧ councilAt 3 w0 wx g p F s P B X ch [] ∧ inv s P B X ch V A r ∧ asksSt i who whom b B X V A s P
def asksPost (w0 : World) (g : Nat) (p : Nat → Nat) (B X : Nat → Int) (ch : Int) (V : Int → Int) (A : Nat → Int → Prop) (r : Int) (who : Nat) (e : Ending) (w' : World) : Prop :=
  e = .returned (.bool true) ∧ ∃ (F : Nat → List Nat) (s : Nat → LS) (P : Nat → Int), councilAt 3 w0 w' g p F s P B X ch [] ∧ inv s P B X ch V A r ∧ ((s who).ph ≠ 2 ∨ (ch ≠ 0 → (s who).boundOf 1 = (one ch, true)))
theorem asks_st {i who whom : Nat} {b : Int} {B X : Nat → Int} {V : Int → Int} {A : Nat → Int → Prop} {s : Nat → LS} {P : Nat → Int} (h : asksSt i who whom b B X V A s P) (hi : i < 2) : (s who).ph = 1 ∧ (s who).bal = b ∧ (s who).pend = false ∧ (s who).acc = 0 := by
  rcases h with ⟨_, h⟩ | ⟨_, h, _⟩ | ⟨q, _⟩
  · rw [h]; exact ⟨rfl, rfl, rfl, rfl⟩
  · rw [h]; exact ⟨rfl, rfl, rfl, rfl⟩
  · omega
theorem no_ok (s : LS) (x : Int) (h1 : s.ph = 1) (h2 : s.pend = false) : (s.no x).2.ph ≠ 2 ∧ (s.no x).2.pend = false ∧ (s.no x).2.id = s.id ∧ (s.no x).2.bal = s.bal ∧ (s.no x).2.prom = s.prom ∧ ((s.no x).2.acc = s.acc ∨ (s.no x).2.acc = 0) := by
  unfold LS.no
  split
  · exact ⟨by show s.ph ≠ 2; omega, h2, rfl, rfl, rfl, .inl rfl⟩
  · exact ⟨by simp, by simp [LS.withdraw], rfl, rfl, rfl, .inr rfl⟩
theorem asks_step {i who whom k : Nat} {b r ch : Int} {B X : Nat → Int} {V : Int → Int} {A : Nat → Int → Prop} {s : Nat → LS} {P : Nat → Int} (h : inv s P B X ch V A r) (hs : asksSt i who whom b B X V A s P) (hi : i < 2) (hw : who < 3) (hwm : whom < 3) (hk : (whom + i) % 3 = k)
    (hP : P k < b) (hbr : b ≤ r) (h0 : 0 < b) (hV : V b = 0) :
    ∃ fl s', (s who).promise k b (told (B k) (X k)) = (fl, 0, s') ∧ inv (upd s who s') (upd P k b) B X ch V A r ∧ asksSt (i + 1) who whom b B X V A (upd s who s') (upd P k b) := by
  have hk3 : k < 3 := by omega
  have hbk := h.vote k hk3
  have hbw := h.vote whom hwm
  have hbl := h.bal who hw
  have h2 := h.raise (k := k) (b := b) (by omega) hbr (by omega)
  rcases hs with ⟨rfl, e⟩ | ⟨rfl, e, e1, e2⟩ | ⟨q, _⟩
  · obtain rfl : whom = k := by omega
    have hp := promise_told1 (who : Int) b (B whom) (X whom) whom hwm hbk.1 (by omega)
    rw [e] at hbl ⊢
    refine ⟨_, _, hp, h2.setLead hw rfl (by rw [e]; exact Int.le_refl _) hbr hbl.2.2 ?_ (by simp) (.inl ⟨by simp, rfl⟩), .inr (.inl ⟨rfl, by rw [upd_at], by rw [upd_at]; omega, by omega⟩)⟩
    exact orB_le 0 (by omega) whom hwm
  · have hne : whom ≠ k := by omega
    obtain ⟨bd, hp, hf⟩ := promise_told2 (who : Int) b (B whom) (X whom) (B k) (X k) whom k hwm hk3 hne hbw.1 e2 hbk.1 (by omega)
    rw [e] at hbl ⊢
    have hr : readyOk V A (upd P k b) ⟨(who : Int), 2, b, 1, orB (orB 0 whom) k, bd, false, CS.zero, 0⟩ :=
      h2.ready hwm hk3 hne (b := b) (by rw [upd_ne _ _ hne]; exact e1) (by rw [upd_at]; omega) e2 (by omega) hV h0 rfl hf
    refine ⟨_, _, hp, h2.setLead hw rfl (by rw [e]; exact Int.le_refl _) hbr hbl.2.2 ?_ (by simp) (.inr (.inl hr)), .inr (.inr ⟨rfl, by rw [upd_at]; exact hr, by rw [upd_at], e2, by rw [hk]; omega⟩)⟩
    exact orB_le _ (orB_le 0 (by omega) whom hwm) k hk3
  · omega

def voteZeroC : Value := .agg #[.int .i64 0, .int .i64 0, .int .i64 0, .slice none 0 0]
theorem infoVoteC : (Try.prog.info? 78).map (fun i => (i.zero, i.size, i.bytes)) = some (some voteZeroC, 4, 48) := by kernel_rfl
theorem reads_rowC {w : World} {g : Nat} {t : TypeId} {cs : Array Value} (h : rowAt w g t cs) (n sz : Nat) (hn : cs.size = n * sz) : reads w (some ⟨g, 0, none⟩) g n sz cs.toList := by
  refine ⟨by simpa using hn, fun _ => ⟨0, rfl, h.lt, fun j u hu => ?_⟩⟩
  rw [h.cell]
  simpa using hu

set_option maxHeartbeats 4000000 in
theorem asks_any (w0 w : World) (g : Nat) (p : Nat → Nat) (F : Nat → List Nat) (s : Nat → LS) (P B X : Nat → Int) (ch : Int) (V : Int → Int) (A : Nat → Int → Prop) (r : Int) (who whom : Nat)
    (h : councilAt 3 w0 w g p F s P B X ch []) (hi : inv s P B X ch V A r) (hr : r ≤ 1000) (hw : who < 3) (hwm : whom < 3) :
    Calls Try.prog 40 #[.pointer (some ⟨g, 0, none⟩), .int .i64 (who : Int), .int .i64 (whom : Int)] w (asksPost w0 g p B X ch V A (r + 3) who) := by
  have hw' : (who : Int) < 3 := by omega
  have hwm' : (whom : Int) < 3 := by omega
  have hbl := hi.bal who hw
  have hpr := hi.prom who hw
  have hid := hi.id who hw
  have hb7 := hi.b7 who hw
  obtain ⟨b, hst, hb1, hb2, hb3, hb4⟩ := start_by (s who) (P who) (by omega) (by omega) hpr.1 (by omega)
  have hVb : V b = 0 := by
    rcases Int.lt_trichotomy (V b) 0 with q | q | q
    · have := (hi.val b (by omega)).1; omega
    · exact q
    · obtain ⟨_, j, hj, q1, q2⟩ := hi.fresh b (by omega)
      obtain rfl : j = who := by omega
      omega
  have c1 := (h.cells who hw).1
  have c2 := h.pt who hw hw
  have HST := Lib.hid hst
  have H := Lib.hid (And.intro h hi)
  have HB := Lib.hid (And.intro hb4 (And.intro hVb (And.intro hid (And.intro hbl (And.intro hpr hb7)))))
  clear h hi hst hb4 hVb hbl hid hb7
  go_enter Try.func40, Try.ntmps40
  go_wp2_with fail
  refine (start_yes (p who) (F who) (s who) (P who) 1 _ (H.out.1.is who hw) ⟨by have := HB.out; omega, by have := HB.out; omega, by have := HB.out; omega, by have := HB.out; omega, HB.out.2.2.2.2.2.1, HB.out.2.2.2.2.2.2⟩ hpr.1 (by omega) (by omega) (by omega)).mono ?_
  rintro e w1 ⟨rfl, hl⟩
  rw [HST.out] at hl ⊢
  obtain ⟨F1, h1, _⟩ := H.out.1.l hw hl
  have hbr : b ≤ r + 3 := by have := HB.out; omega
  have hi1 := (H.out.2.grow (show r ≤ r + 3 by omega)).setLead hw (s' := ⟨(s who).id, 1, b, 1, 0, [], false, CS.zero, 0⟩) HB.out.2.2.1 (by show (s who).bal ≤ b; omega) hbr (.inr (by show b % 3 = _; have := HB.out; omega)) (by simp) (by simp) (.inl ⟨by simp, rfl⟩)
  rw [HB.out.2.2.1] at h1 hi1
  have H1 := Lib.hid (And.intro h1 hi1)
  clear h1 hi1 hl c1 c2
  go_wp2_with fail
  go_loopw [10] (fun v10 wx => asksRel w0 g p B X ch V A (r + 3) b who whom v10 wx) (fun v10 _ => 2 - (intOf v10).toNat)
  case atStart => exact ⟨0, _, _, _, by omega, rfl, H1.out.1, H1.out.2, .inl ⟨rfl, by rw [upd_at]⟩⟩
  case round =>
    obtain ⟨i, F2, s2, P2, hi2, rfl, h2, hv2, hs2⟩ := hrel
    clear H1
    by_cases hlt : i < 2
    · have hlt' : (i : Int) < 2 := by omega
      obtain ⟨k, hk⟩ : ∃ k, (whom + i) % 3 = k := ⟨_, rfl⟩
      have hk3 : k < 3 := by omega
      have hk3' : (k : Int) < 3 := by omega
      have hkm : ((whom : Int) + (i : Int)).tmod 3 = (k : Int) := by
        rw [Int.tmod_eq_emod_of_nonneg (by omega)]; omega
      obtain ⟨t1, t2, t3, t4⟩ := asks_st hs2 hlt
      have c1 := (h2.cells k hk3).1
      have c2 := (h2.cells k hk3).2.1
      have cp := h2.pt who hw hw
      have cf := h2.free (3 + k * 5)
      have H2 := Lib.hid (And.intro h2 (And.intro hv2 hs2))
      have HT := Lib.hid (And.intro t1 (And.intro t2 (And.intro t3 (And.intro t4 hk))))
      clear h2 hv2 hs2 t1 t2 t3 t4 hk
      go_upto_region 9 with fail
      by_cases hle : b ≤ P2 k
      · go_upto_region 10 with fail
        go_region_held3 (fun w' => w'.cell? ⟨g, who, none⟩ = some (.pointer (some ⟨p who, 0, none⟩)) ∧ w'.cell? ⟨g, 3 + k * 5, none⟩ = some (.int .i64 (P2 k))) (first | exact ⟨cp, c1⟩ | exact ⟨cp5, c5⟩)
          (first
            | (go_at_call 47; (with_reducible refine (noL_any (p who) (F2 who) (s2 who) (P2 k) _ ((H2.out.1.is who hw).over ((keepBut.refl [] wr).drew))).mono ?_); intro e w5 hl5; obtain ⟨he5, F5, h5, _⟩ := (H2.out.1.over ((keepBut.refl [] wr).drew)).ww hw hl5; subst he5; have cp5 := h5.pt who hw hw; have c5 := (h5.cells k hk3).1; have H5 := Lib.hid h5; clear h5 hl5)
            | fail)
        obtain ⟨n1, n2, n3, n4, n5, n6⟩ := no_ok (s2 who) (P2 k) HT.out.1 HT.out.2.2.1
        have hb2 := H2.out.2.1.bal who hw
        have hb7 := H2.out.2.1.b7 who hw
        have hi5 := H2.out.2.1.setLead hw (s' := ((s2 who).no (P2 k)).2) (by rw [n3]; exact H2.out.2.1.id who hw) (by rw [n4]; exact Int.le_refl _) (by rw [n4]; exact hb2.2.1) (by rw [n4]; exact hb2.2.2) (by rw [n5]; exact hb7.1) (by rcases n6 with q | q <;> rw [q]; exact hb7.2; omega) (.inl ⟨n1, n2⟩)
        have H6 := Lib.hid (And.intro hi5 n1)
        clear hi5 n1 n2 n3 n4 n5 n6 hb2 hb7
        go_wp2_with fail
        go_ret
        exact ⟨rfl, F5, _, P2, H5.out, H6.out.1, .inl (by rw [upd_at]; exact H6.out.2)⟩
      · have hP := H2.out.1.setP k hk3 b
        have c3 := (hP.cells k hk3).2.1
        obtain ⟨c4, c5, c6, A7, n7, Gv, c7, hh7, hG7⟩ := (hP.cells k hk3).2
        have cp3 := hP.pt who hw hw
        have HP := Lib.hid (And.intro hP (And.intro hh7 hG7))
        clear hP hh7 hG7
        obtain ⟨fl, st', hp, hi', hs'⟩ := asks_step H2.out.2.1 H2.out.2.2 hlt hw hwm HT.out.2.2.2.2 (show P2 k < b by omega) hbr (by omega) HB.out.2.1
        have hb2 := H2.out.2.1.bal who hw
        have hb7 := H2.out.2.1.b7 who hw
        have hid2 := H2.out.2.1.id who hw
        have hvk := H2.out.2.1.vote k hk3
        have hbalk := HT.out.2.1
        have hphk := HT.out.1
        have hprom : ∀ v G wx, councilAt 3 w0 wx g p F2 s2 (upd P2 k b) B X ch [] → votesV wx G v (told (B k) (X k)) → (∀ y ∈ G, y ∉ F2 who ∧ y < wx.heap.size) →
            Calls Try.prog 43 #[.pointer (some ⟨p who, 0, none⟩), .int .i64 (k : Int), .int .i64 b, v] wx fun e w' => e = .returned (.tuple #[.bool fl, .int .i64 0]) ∧ ∃ F', councilAt 3 w0 w' g p F' (upd s2 who st') (upd P2 k b) B X ch [] := fun v G wx hx hv hG => by
          have hc := promise_yes (p who) (F2 who) G (s2 who) k v _ wx (hx.is who hw) ⟨by omega, by omega, by omega, by omega, hb7.1, hb7.2⟩ hk3 hphk hv hG
          rw [hbalk, hp] at hc
          refine hc.mono ?_
          rintro e w' ⟨rfl, hl⟩
          obtain ⟨F', h', _⟩ := hx.l hw hl
          exact ⟨rfl, F', h'⟩
        have HX := Lib.hid (And.intro hprom (And.intro hi' hs'))
        clear hprom hi' hs' hp hb2 hb7 hid2 hbalk hphk
        go_upto_region 14 with fail
        generalize wr.setCell ⟨g, 3 + k * 5, none⟩ (.int .i64 b) = w3 at *
        by_cases hB : B k = 0
        · rw [hB] at c3
          go_wp2_with fail
          refine (HX.out.1 (.slice none 0 0) [] _ HP.out.1 (by unfold told; rw [if_pos hB]; exact votesV.nil _ _) (by simp)).mono ?_
          rintro e w5 ⟨rfl, F5, h5⟩
          have H5 := Lib.hid h5
          clear h5
          go_wp2_with fail
          go_roundw
          case rel => exact ⟨i + 1, _, _, _, by omega, by go_num, H5.out, HX.out.2⟩
          case measure => simp [intOf]; omega
        · have hB2 : 0 < B k := by omega
          rw [show chOf (B k) (X k) = [X k] from if_neg hB] at c7 HP
          rw [show cN (B k) = 1 from if_neg hB] at c5 c6
          have d5 : w3.cell? ⟨g, 3 + k * 5 + 1 + 1, none⟩ = some (.int .i64 1) := c5
          have d6 : w3.cell? ⟨g, 3 + k * 5 + 1 + 2, none⟩ = some (.int .i64 1) := c6
          have d7 : w3.cell? ⟨g, 3 + k * 5 + 1 + 3, none⟩ = some (.slice A7 1 n7) := c7
          obtain ⟨i0, hi0, hz0, hz1, hz2⟩ := info_parts infoVoteC
          have ka := (keepBut.refl [] w3).alloc (.cells #[.int .i64 (B k), .int .i64 1, .int .i64 1, .slice A7 1 n7] 78)
          have ra := reads_rowC (rowAt.new w3 78 #[.int .i64 (B k), .int .i64 1, .int .i64 1, .slice A7 1 n7]) 1 4 rfl
          have HA := Lib.hid (And.intro ka ra)
          clear ka ra
          go_wp2_with (at_builtin; refine wp_append _ rfl (.tmp 82) (.tmp 90) 56 rfl 78 i0 voteZeroC 4 48 Try.underlying56 hi0 hz0 hz1 hz2 rfl (by decide) (.slice none 0 0) 0 [] rfl (owns.nil _ _ _) (some ⟨w3.heap.size, 0, none⟩) w3.heap.size 1 1 _ rfl HA.out.2 (by intro u hu; simp at hu; rcases hu with rfl | rfl | rfl | rfl <;> rfl) (by omega) (by unfold maxLen; omega) ?_; intro A8 c8 w8 hown8 hkb8 hloc8; have hk8 := HA.out.1.then (show keepBut [] _ w8 from hkb8) (by simp); have h8 := HP.out.1.over hk8; have cp8 := h8.pt who hw hw; have H8 := Lib.hid (And.intro h8 (And.intro hk8 (And.intro hown8 hloc8))); clear h8 hk8 hown8 hkb8 hloc8)
          have hlt2 := (HP.out.1.is who hw).lt
          have hv8 : votesV w8 (homes (.slice A8 1 c8) ++ Gv) (.slice A8 1 c8) (told (B k) (X k)) := by
            unfold told
            rw [if_neg hB]
            exact votes_owned (d := ⟨B k, one (X k)⟩) H8.out.2.2.1 (HP.out.2.1.keep H8.out.2.1 (by simp))
          refine (HX.out.1 (.slice A8 1 c8) _ _ H8.out.1 hv8 (fun y hy => ?_)).mono ?_
          · rcases List.mem_append.1 hy with q | q
            · refine ⟨fun hm => ?_, H8.out.2.2.1.lt y q⟩
              rcases H8.out.2.2.2 y q with q2 | q2
              · simp [homes_none] at q2
              · have := hlt2 y hm; simp at q2; omega
            · have := HP.out.2.2 y q
              exact ⟨this.2 who hw, Nat.lt_of_lt_of_le this.1 H8.out.2.1.size⟩
          rintro e w5 ⟨rfl, F5, h5⟩
          have H5 := Lib.hid h5
          clear h5
          go_wp2_with fail
          go_roundw
          case rel => exact ⟨i + 1, _, _, _, by omega, by go_num, H5.out, HX.out.2⟩
          case measure => simp [intOf]; omega
    · obtain rfl : i = 2 := by omega
      rcases hs2 with ⟨q, _⟩ | ⟨q, _⟩ | ⟨_, hr2, hb2, hb5, hb6⟩
      · omega
      · omega
      have H2 := Lib.hid (And.intro h2 (And.intro hv2 hr2))
      have cp := h2.pt who hw hw
      have HE := Lib.hid (And.intro hb2 (And.intro hb5 hb6))
      clear h2 hv2 hr2 hb2 hb5 hb6
      go_wp2_with fail
      refine (phaseL_any (p who) (F2 who) (s2 who) _ (H2.out.1.is who hw)).mono ?_; rintro e w5 ⟨rfl, rfl⟩
      rw [H2.out.2.2.ph]
      go_wp2_with fail
      go_ret
      refine ⟨rfl, F2, s2, P2, H2.out.1, H2.out.2.1, .inr (fun hc => H2.out.2.1.bound hwm (show (whom + 1) % 3 < 3 by omega) (by omega) H2.out.2.2 (by rw [HE.out.1]; exact HE.out.2.1) (by rw [HE.out.1]; exact HE.out.2.2) hc)⟩
end Go.Proofs.Ytbjonlfjfjlelaa
