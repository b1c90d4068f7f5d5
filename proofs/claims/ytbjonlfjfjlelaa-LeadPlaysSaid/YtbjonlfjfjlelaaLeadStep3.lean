/-
  LEAD: the law's own step, kind 3.
-/
import Derived.Test.YtbjonlfjfjlelaaLeadNine
namespace Go.Proofs.Ytbjonlfjfjlelaa
open Go.RowKit
set_option linter.unusedVariables false
set_option maxRecDepth 100000

set_option maxHeartbeats 8000000 in
theorem step3_any (w0 w : World) (p : Nat) (F : List Nat) (s : LS) (q : Nat) (G : List Nat) (i : Nat) (k a b n : Int) (near : Bool) (num full : Int) (A7 : Option Addr) (n7 : Nat) (cl : List Int) (A8 : Option Addr) (c8 : Nat) (vl : List VS)
    (h : both w0 w p F s q G s []) (hin : inP s i) (hi : i < 60) (hk : -9223372036854775808 ≤ k ∧ k ≤ 9223372036854775807) (ha : -9223372036854775808 ≤ a ∧ a ≤ 9223372036854775807) (hcl : argI w0 (.slice A7 cl.length n7) cl) (hv1 : vl.length ≤ c8) (hv2 : c8 ≤ maxLen) (hv : argV w0 A8 vl) (hkind : k % 7 = 3) :
    Calls Try.prog 29 #[.pointer (some ⟨p, 0, none⟩), .pointer (some ⟨q, 0, none⟩), .agg #[.int .i64 k, .int .i64 a, .int .i64 b, .int .i64 n, .bool near, .int .i64 num, .int .i64 full, .slice A7 cl.length n7, .slice A8 vl.length c8]] w (stepPost w0 p q i) := by
  unfold maxLen at hv2
  have hra := rowAt.new w 58 (rowD k a b n near num full (.slice A7 cl.length n7) (.slice A8 vl.length c8))
  have hka := (keepBut.refl [] w).alloc (.cells (rowD k a b n near num full (.slice A7 cl.length n7) (.slice A8 vl.length c8)) 58)
  have hB := h.grow (E' := [w.heap.size]) hka (fun y hy => .inr (by rw [List.mem_singleton.1 hy]; exact ⟨Nat.le_refl _, hra.lt⟩))
  unfold rowD at hra hka hB
  clear hka h
  have HK := Lib.hid (And.intro hcl hv)
  clear hcl hv
  go_enter Try.func29, Try.ntmps29
  go_upto_region 1 with fail
  generalize w.alloc (.cells #[.int .i64 k, .int .i64 a, .int .i64 b, .int .i64 n, .bool near, .int .i64 num, .int .i64 full, .slice A7 cl.length n7, .slice A8 vl.length c8] 58) = wa at *
  generalize w.heap.size = ta at *
  have y2 : wa.cell? ⟨ta, 2, none⟩ = some (.int .i64 b) := hra.cell 2
  have y3 : wa.cell? ⟨ta, 3, none⟩ = some (.int .i64 n) := hra.cell 3
  have y4 : wa.cell? ⟨ta, 4, none⟩ = some (.bool near) := hra.cell 4
  have yf2 := hra.free 2
  have yf3 := hra.free 3
  have x1 := hB.m.c1
  have x9 := hB.m.c8.2
  have HA := Lib.hid (And.intro hra hB)
  clear hra hB
  go_upto_if 33 with fail
  go_cut [] (fun wx => stepIn w0 p F s q G ta k a near num full (.slice A7 cl.length n7) (.slice A8 vl.length c8) wx)
  case first =>
    cases near with
    | true =>
      go_wp2_with fail
      go_meet
      have hr := (HA.out.1.set 2 (.int .i64 s.bal)).set 3 (.int .i64 s.prop.num)
      have hk2 := ((keepBut.refl [ta] wa).setCell ⟨ta, 2, none⟩ (.int .i64 s.bal) (by simp)).setCell ⟨ta, 3, none⟩ (.int .i64 s.prop.num) (by simp)
      exact ⟨s.bal, s.prop.num, by simpa [rowD] using hr, HA.out.2.poke hk2 (by simp)⟩
    | false =>
      go_wp2_with fail
      go_meet
      exact ⟨b, n, HA.out.1, HA.out.2⟩
  case rest =>
    obtain ⟨b, n, hr, hB⟩ := hcut
    clear y2 y3 y4 yf2 yf3 x1 x9 HA
    generalize wc = w1 at *
    have y0 : w1.cell? ⟨ta, 0, none⟩ = some (.int .i64 k) := hr.cell 0
    have HR := Lib.hid (And.intro hr hB)
    clear hr hB
    go_wp2_with fail
    refine (bring_any k 7 hk.1 hk.2 (by omega) (by omega) _).mono ?_; rintro e w' ⟨rfl, rfl⟩
    clear y0
    rw [hkind]
    obtain ⟨h71, h72, H0, hh0, hH0⟩ := HK.out.1.held8
    obtain ⟨c, e1, e2, e3⟩ : ∃ c : CS, c.num = num ∧ c.full = full ∧ c.chain = cl.take 8 := ⟨⟨num, full, cl.take 8⟩, rfl, rfl, rfl⟩
    subst e1 e2
    have y5 : w1.cell? ⟨ta, 5, none⟩ = some (.int .i64 c.num) := HR.out.1.cell 5
    have y6 : w1.cell? ⟨ta, 6, none⟩ = some (.int .i64 c.full) := HR.out.1.cell 6
    have y7 : w1.cell? ⟨ta, 7, none⟩ = some (.slice A7 cl.length n7) := HR.out.1.cell 7
    have HCC := Lib.hid (fun W => cutConf_any c.num c.full A7 cl n7 W h71 h72)
    rw [← e3] at HCC hh0
    have HM := Lib.hid (fun (W : World) hq hh hg => propM_all q G H0 s c (.slice A7 c.chain.length n7) W hq hh hg (fun e => (hin.no e).1) (by have := hin.len; omega))
    have HL := Lib.hid (fun (W : World) Gc cv hq hh hg => propL_all p F Gc s c cv W hq hh hg)
    have HP := Lib.hid (hin.prop c)
    have HH := Lib.hid (And.intro hh0 hH0)
    clear hh0 hH0 e3 hin
    generalize s.propose c = sp at HM HL HP
    obtain ⟨er, x, s'⟩ := sp
    dsimp only at HM HL HP
    go_wp2_with fail
    refine (HCC.out _).mono ?_; rintro e w2 ⟨rfl, k2⟩
    have b2 := HR.out.2.over k2
    have r2 := k2.row HR.out.1 (by simp)
    have hc2 := HH.out.1.keep b2.kept (by simp)
    have H2 := Lib.hid (And.intro r2 (And.intro b2 hc2))
    clear k2 b2 r2 hc2 y5 y6 y7 HR
    go_wp2_with fail
    refine (copyConf_free H0 c (.slice A7 c.chain.length n7) _ H2.out.2.2).mono ?_; rintro e w3 ⟨cv3, rfl, G3, hh3, hG3, k3, hz3⟩
    obtain ⟨A3, n3, g3, rfl, hh3r⟩ := id hh3
    clear hh3r hz3
    have r3 := k3.row H2.out.1 (by simp)
    have b3 := H2.out.2.1.over k3
    have hFl := H2.out.2.1.l.lt
    have hG3F : ∀ y ∈ G3, y ∉ F ∧ y < w3.heap.size := fun y hy => ⟨fun hm => by have := hFl y hm; have := (hG3 y hy).1; omega, (hG3 y hy).2⟩
    have H3 := Lib.hid (And.intro r3 (And.intro b3 (And.intro hh3 hG3F)))
    clear r3 b3 hh3 hG3 k3 H2 hFl hG3F
    unfold confV
    go_upto_region 33 with fail
    have rb := rowAt.new w3 55 #[.int .i64 c.num, .int .i64 c.full, .slice A3 c.chain.length n3]
    have kb := (keepBut.refl [] w3).alloc (.cells #[.int .i64 c.num, .int .i64 c.full, .slice A3 c.chain.length n3] 55)
    have bb := H3.out.2.1.over kb
    have hb := H3.out.2.2.1.keep kb (by simp)
    have hbF : ∀ y ∈ G3, y ∉ F ∧ y < (w3.alloc (.cells #[.int .i64 c.num, .int .i64 c.full, .slice A3 c.chain.length n3] 55)).heap.size := fun y hy => ⟨(H3.out.2.2.2 y hy).1, Nat.lt_of_lt_of_le (H3.out.2.2.2 y hy).2 kb.size⟩
    have ra := kb.row H3.out.1 (by simp)
    clear H3 kb
    generalize w3.alloc (.cells #[.int .i64 c.num, .int .i64 c.full, .slice A3 c.chain.length n3] 55) = wb at *
    generalize w3.heap.size = tb at *
    have x0 : wb.cell? ⟨tb, 0, none⟩ = some (.int .i64 c.num) := rb.cell 0
    have x1 : wb.cell? ⟨tb, 1, none⟩ = some (.int .i64 c.full) := rb.cell 1
    have x2 : wb.cell? ⟨tb, 2, none⟩ = some (.slice A3 c.chain.length n3) := rb.cell 2
    have HB := Lib.hid (And.intro bb (And.intro hb (And.intro hbF ra)))
    clear bb hb hbF ra rb
    go_wp2_with fail
    refine (HL.out wb G3 _ HB.out.1.l HB.out.2.1 HB.out.2.2.1).mono ?_; rintro e w4 ⟨cv4, F4, G4, rfl, l4, k4, f4, hh4, hG4, hz4⟩
    obtain ⟨A4, n4, g4, rfl, -, -, hL4, -⟩ := id hh4
    clear x0 x1 x2
    have b4 := HB.out.1.de l4 k4 f4
    have ra4 := k4.row HB.out.2.2.2 (HB.out.1.eF ta (by simp))
    have b4' := b4.add (E' := ta :: G4) (fun y hy => by
      rcases List.mem_cons.1 hy with h | h
      · exact .inl (by simp [h])
      · exact .inr ⟨(hG4 y h).2.2, fun hm => by have := HB.out.1.m.lt y hm; have := (hG4 y h).1; omega, Nat.le_trans HB.out.1.kept.size (hG4 y h).1, (hG4 y h).2.1⟩)
    have H4 := Lib.hid (And.intro b4' (And.intro ra4 (And.intro hh4 (And.intro (hh4.canNine hz4 (fun y hy => hy)) hG4))))
    clear b4 b4' ra4 hh4 hz4 hG4 l4 k4 f4 HB
    unfold confV
    go_upto_region 34 with fail
    have rc := rowAt.new w4 55 #[.int .i64 x.num, .int .i64 x.full, .slice A4 x.chain.length n4]
    have kc := (keepBut.refl [] w4).alloc (.cells #[.int .i64 x.num, .int .i64 x.full, .slice A4 x.chain.length n4] 55)
    have bc := H4.out.1.grow (E' := w4.heap.size :: ta :: G4) kc (fun y hy => by
      rcases List.mem_cons.1 hy with h | h
      · exact .inr ⟨by omega, by rw [h]; exact rc.lt⟩
      · exact .inl h)
    have hc4 := H4.out.2.2.1.keep kc (by simp)
    have cn4 := H4.out.2.2.2.1.keep kc (by simp)
    have ra5 := kc.row H4.out.2.1 (by simp)
    have hne : ∀ y ∈ G4, y ≠ w4.heap.size := fun y hy e => by have := (H4.out.2.2.2.2 y hy).2.1; omega
    clear H4 kc
    generalize w4.alloc (.cells #[.int .i64 x.num, .int .i64 x.full, .slice A4 x.chain.length n4] 55) = w5 at *
    generalize w4.heap.size = tc at *
    have y5 : w5.cell? ⟨ta, 5, none⟩ = some (.int .i64 c.num) := ra5.cell 5
    have y6 : w5.cell? ⟨ta, 6, none⟩ = some (.int .i64 c.full) := ra5.cell 6
    have y7 : w5.cell? ⟨ta, 7, none⟩ = some (.slice A7 cl.length n7) := ra5.cell 7
    have H5 := Lib.hid (And.intro bc (And.intro rc (And.intro hc4 (And.intro cn4 hne))))
    clear bc rc hc4 cn4 hne ra5
    go_wp2_with fail
    refine (HCC.out _).mono ?_; rintro e w6 ⟨rfl, k6⟩
    have H6 := Lib.hid (And.intro (H5.out.1.over k6) (And.intro (k6.row H5.out.2.1 (by simp)) (And.intro (H5.out.2.2.1.keep k6 (by simp)) (And.intro (H5.out.2.2.2.1.keep k6 (by simp)) H5.out.2.2.2.2))))
    clear k6 y5 y6 y7 H5
    go_wp2_with fail
    refine (HM.out w6 H6.out.1.m (HH.out.1.keep H6.out.1.kept (by simp)) (fun y hy => ⟨fun hm => by have := H6.out.1.mG y hm; have := HH.out.2 y hy; omega, Nat.lt_of_lt_of_le (HH.out.2 y hy) H6.out.1.kept.size⟩)).mono ?_; rintro e w7 ⟨cv7, G7, H7, rfl, m7, k7, f7, hh7, hH7⟩
    obtain ⟨A6, n6, g6, rfl, hh7r⟩ := id hh7
    clear hh7r hH7
    have HS7 := Lib.hid (And.intro (H6.out.1.dm m7 k7 f7) (And.intro (k7.row H6.out.2.1 (H6.out.1.eG tc (by simp))) (And.intro (H6.out.2.2.1.keep k7 (fun y hy => H6.out.1.eG y (by simp [hy]))) (And.intro (H6.out.2.2.2.1.keep k7 (fun y hy => H6.out.1.eG y (by simp [hy]))) (And.intro H6.out.2.2.2.2 hh7)))))
    clear m7 k7 f7 hh7 H6
    unfold confV
    go_upto_region 35 with fail
    have rd := rowAt.new w7 55 #[.int .i64 x.num, .int .i64 x.full, .slice A6 x.chain.length n6]
    have kd := (keepBut.refl [] w7).alloc (.cells #[.int .i64 x.num, .int .i64 x.full, .slice A6 x.chain.length n6] 55)
    have bd := HS7.out.1.over kd
    have rc := kd.row HS7.out.2.1 (by simp)
    have hc4 := HS7.out.2.2.1.keep kd (by simp)
    have cn4 := HS7.out.2.2.2.1.keep kd (by simp)
    have hh7 := HS7.out.2.2.2.2.2.keep kd (by simp)
    have hne := HS7.out.2.2.2.2.1
    clear HS7 kd
    generalize w7.alloc (.cells #[.int .i64 x.num, .int .i64 x.full, .slice A6 x.chain.length n6] 55) = w8 at *
    generalize w7.heap.size = td at *
    have z0 : w8.cell? ⟨tc, 0, none⟩ = some (.int .i64 x.num) := rc.cell 0
    have z1 : w8.cell? ⟨tc, 1, none⟩ = some (.int .i64 x.full) := rc.cell 1
    have z2 : w8.cell? ⟨tc, 2, none⟩ = some (.slice A4 x.chain.length n4) := rc.cell 2
    have z3 : w8.cell? ⟨td, 0, none⟩ = some (.int .i64 x.num) := rd.cell 0
    have z4 : w8.cell? ⟨td, 1, none⟩ = some (.int .i64 x.full) := rd.cell 1
    have z5 : w8.cell? ⟨td, 2, none⟩ = some (.slice A6 x.chain.length n6) := rd.cell 2
    have HSC := Lib.hid (sameConf_any G4 H7 x (.slice A4 x.chain.length n4) (.slice A6 x.chain.length n6) w8 hc4 hh7)
    unfold confV at HSC
    have H8 := Lib.hid (And.intro bd (And.intro rc (And.intro cn4 hne)))
    clear bd rc rd hc4 cn4 hne hh7
    go_wp2_with fail
    refine HSC.out.mono ?_; rintro e w9 ⟨rfl, k9⟩
    have H9 := Lib.hid (And.intro (H8.out.1.over k9) (And.intro (k9.row H8.out.2.1 (by simp)) (And.intro (H8.out.2.2.1.keep k9 (by simp)) H8.out.2.2.2)))
    clear HSC z0 z1 z2 z3 z4 z5 k9 H8 HL HM HCC HH
    generalize x.chain.length = L at *
    rcases Nat.eq_zero_or_pos L with hL | hL
    · subst hL
      go_wp2_with fail
      go_loopw [27] (fun v27 wx => nineRel w0 p F4 q G7 s' tc #[.int .i64 x.num, .int .i64 x.full, .slice A4 0 n4] G4 A4 0 v27 wx) (fun v27 _ => 0)
      case atStart => exact ⟨0, _, by omega, rfl, H9.out.1, H9.out.2.1, fun y hy => ⟨by simp [hy], H9.out.2.2.2 y hy⟩, H9.out.2.2.1⟩
      case round =>
        obtain ⟨k2, E2, hk2, rfl, hb2, hr2, hC2, hn2⟩ := hrel
        obtain rfl : k2 = 0 := by omega
        have z2 : wr.cell? ⟨tc, 2, none⟩ = some (.slice A4 0 n4) := hr2.cell 2
        have HX := Lib.hid hb2
        clear hb2 hr2 hC2 hn2
        go_wp2
        go_ret
        exact ⟨rfl, F4, G7, s', HX.out.some (by simp), HP.out⟩
    · obtain ⟨gn, on, rfl, hgn, hcells⟩ := H9.out.2.2.1 hL
      clear hgn hcells
      go_wp2_with fail
      go_loopw [27] (fun v27 wx => nineRel w0 p F4 q G7 s' tc #[.int .i64 x.num, .int .i64 x.full, .slice (some ⟨gn, on, none⟩) L n4] G4 (some ⟨gn, on, none⟩) L v27 wx) (fun v27 _ => L - (intOf v27).toNat)
      case atStart => exact ⟨0, _, by omega, rfl, H9.out.1, H9.out.2.1, fun y hy => ⟨by simp [hy], H9.out.2.2.2 y hy⟩, H9.out.2.2.1⟩
      case round =>
        obtain ⟨k2, E2, hk2, rfl, hb2, hr2, hC2, hn2⟩ := hrel
        have z2 : wr.cell? ⟨tc, 2, none⟩ = some (.slice (some ⟨gn, on, none⟩) L n4) := hr2.cell 2
        by_cases hlt : k2 < L
        · have hlt' : (k2 : Int) < (L : Int) := by omega
          obtain ⟨g', o', e', hg', hcell⟩ := id (hn2 (by omega))
          injection e' with e'
          injection e' with ea eb _
          subst ea eb
          obtain ⟨u, hu, hf⟩ := hcell k2 hlt
          have HX := Lib.hid (And.intro hb2 (And.intro hr2 (And.intro hC2 (And.intro hn2 hg'))))
          clear hb2 hr2 hC2 hn2 hcell hg'
          go_wp2_with fail
          go_roundw
          case rel =>
            have ks := (keepBut.refl [gn] wr).setCell ⟨gn, on + k2, none⟩ (.int .i64 (-9)) (by simp)
            obtain ⟨hb2, hr2, hC2, hn2, hg'⟩ := HX.out
            exact ⟨k2 + 1, E2, by omega, by go_num, hb2.poke ks (fun y hy => by rw [List.mem_singleton.1 hy]; exact (hC2 gn hg').1), ks.row hr2 (fun hm => (hC2 gn hg').2 (List.mem_singleton.1 hm).symm), hC2, hn2.set hlt⟩
          case measure => simp [intOf]; omega
        · obtain rfl : k2 = L := by omega
          have HX := Lib.hid hb2
          clear hb2 hr2 hC2 hn2
          go_wp2
          go_ret
          exact ⟨rfl, F4, G7, s', HX.out.some (by simp), HP.out⟩
end Go.Proofs.Ytbjonlfjfjlelaa
